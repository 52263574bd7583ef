"""The classes of nearfrac.errors."""

import unittest

from nearfrac import errors

REFUSALS = (
    "NoFraction", "NoPath", "NoBounds", "NoRoom", "Unsure", "NoText",
    "NoNumber",
)


class ErrorsTest(unittest.TestCase):

    def test_any_refusal_is_a_value_error(self):
        self.assertEqual(errors.FractionError.__bases__, (ValueError,))

    def test_each_refusal_stands_straight_under_fraction_error(self):
        for name in REFUSALS:
            with self.subTest(name):
                refusal = getattr(errors, name)
                self.assertEqual(refusal.__bases__, (errors.FractionError,))

    def test_each_class_is_defined_here_under_its_own_name(self):
        for name in ("FractionError",) + REFUSALS:
            with self.subTest(name):
                refusal = getattr(errors, name)
                self.assertEqual(refusal.__name__, name)
                self.assertEqual(refusal.__module__, "nearfrac.errors")

    def test_a_refusal_is_caught_as_itself_and_as_no_other_one(self):
        for name in REFUSALS:
            for other in REFUSALS:
                with self.subTest(name, other=other):
                    caught = self.is_caught_as(
                        getattr(errors, name), getattr(errors, other))
                    self.assertIs(caught, name == other)

    def test_fraction_error_and_value_error_take_each_refusal(self):
        for name in REFUSALS:
            refusal = getattr(errors, name)
            for wider in (errors.FractionError, ValueError):
                with self.subTest(name, wider=wider):
                    self.assertTrue(self.is_caught_as(refusal, wider))

    def test_a_plain_fraction_error_is_no_single_refusal(self):
        for name in REFUSALS:
            with self.subTest(name):
                self.assertFalse(self.is_caught_as(
                    errors.FractionError, getattr(errors, name)))

    def is_caught_as(self, raised, named):
        try:
            raise raised("why")
        except named:
            return True
        except Exception:
            return False


if __name__ == "__main__":
    unittest.main()
