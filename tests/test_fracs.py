"""Points 1 to 3: what a fraction is, lowest, less and apart."""

import inspect
import unittest
from fractions import Fraction

from nearfrac import errors, fracs
from nearfrac.fracs import apart, less, lowest
from samples import (
    MOST, NO_WHOLE_NUMBERS, FractionCase, fibonacci_below, small_fractions,
)

PRIMES = (2, 3, 5, 7, 11, 13, 97, 65537, 10 ** 9 + 7, 2 ** 61 - 1,
          2 ** 89 - 1, 2 ** 107 - 1, 2 ** 127 - 1)
OTHER_REFUSALS = (
    errors.NoPath, errors.NoBounds, errors.NoRoom, errors.Unsure,
    errors.NoText, errors.NoNumber,
)


class FracsTest(FractionCase):

    def assert_less(self, one, other):
        """Less, told by True or False itself, in both orders."""
        self.assertIs(less(one, other), True)
        self.assertIs(less(other, one), False)

    def assert_apart(self, one, other, wanted):
        """Just so far apart, either way round."""
        self.assert_fraction(apart(one, other), wanted)
        self.assert_fraction(apart(other, one), wanted)


class InterfaceTest(FracsTest):

    def test_each_function_is_defined_here_with_its_arguments(self):
        for name, arguments in (("lowest", ["upper", "lower"]),
                                ("less", ["one", "other"]),
                                ("apart", ["one", "other"])):
            with self.subTest(name):
                function = getattr(fracs, name)
                self.assertEqual(function.__module__, "nearfrac.fracs")
                self.assertEqual(
                    list(inspect.signature(function).parameters), arguments)

    def test_arguments_may_be_named(self):
        self.assert_fraction(lowest(lower=4, upper=6), (3, 2))
        self.assertIs(less(other=(1, 2), one=(1, 3)), True)
        self.assert_fraction(apart(other=(1, 2), one=(1, 3)), (1, 6))

    def test_the_same_asked_again_is_answered_as_before(self):
        one, other = (10, 21), (4, 7)
        for _ in range(3):
            self.assert_fraction(lowest(20, 42), (10, 21))
            self.assert_less(one, other)
            self.assert_apart(one, other, (2, 21))
        self.assertEqual((one, other), ((10, 21), (4, 7)))


class LowestTest(FracsTest):

    def test_ordinary_numbers(self):
        for upper, lower, wanted in (
                (6, 4, (3, 2)), (4, 6, (2, 3)), (3, 2, (3, 2)),
                (2, 3, (2, 3)), (9, 3, (3, 1)), (3, 9, (1, 3)),
                (100, 75, (4, 3)), (8, 64, (1, 8)), (49, 21, (7, 3))):
            with self.subTest(upper=upper, lower=lower):
                self.assert_fraction(lowest(upper, lower), wanted)

    def test_all_small_numbers(self):
        for upper in range(61):
            for lower in range(1, 61):
                with self.subTest(upper=upper, lower=lower):
                    self.assert_fraction(
                        lowest(upper, lower),
                        Fraction(upper, lower).as_integer_ratio())

    def test_upper_part_nought(self):
        for lower in (1, 2, 7, 10 ** 59, MOST):
            with self.subTest(lower=lower):
                self.assert_fraction(lowest(0, lower), (0, 1))

    def test_lower_part_one(self):
        for upper in (0, 1, 2, 7, 10 ** 59, MOST):
            with self.subTest(upper=upper):
                self.assert_fraction(lowest(upper, 1), (upper, 1))

    def test_both_parts_the_same(self):
        for both in (1, 2, 7, 10 ** 59, MOST):
            with self.subTest(both=both):
                self.assert_fraction(lowest(both, both), (1, 1))

    def test_whatever_divides_both(self):
        for prime in PRIMES:
            for shared in (prime, prime ** 2, 2 * prime, 6 * prime):
                with self.subTest(shared=shared):
                    self.assert_fraction(
                        lowest(21 * shared, 10 * shared), (21, 10))
                    self.assert_fraction(
                        lowest(10 * shared, 21 * shared), (10, 21))
                    self.assert_fraction(lowest(shared, 2 * shared), (1, 2))

    def test_large_common_divisors(self):
        for shared in (10 ** 58, 10 ** 58 + 1, 10 ** 57 + 7, 2 ** 193,
                       3 ** 122, 10 ** 59 - 1):
            with self.subTest(shared=shared):
                self.assert_fraction(lowest(8 * shared, 9 * shared), (8, 9))
                self.assert_fraction(lowest(9 * shared, 8 * shared), (9, 8))
                self.assert_fraction(lowest(7 * shared, shared), (7, 1))
                self.assert_fraction(lowest(shared, 7 * shared), (1, 7))

    def test_large_numbers_without_a_common_divisor(self):
        for figures in (58, 59, 60):
            top = 10 ** figures - 1
            with self.subTest(figures=figures):
                self.assert_fraction(lowest(top, top - 1), (top, top - 1))
                self.assert_fraction(lowest(top - 1, top), (top - 1, top))
                self.assert_fraction(lowest(top - 2, top), (top - 2, top))
                self.assert_fraction(lowest(1, top), (1, top))

    def test_large_numbers_with_a_small_common_divisor(self):
        half, third = 5 * 10 ** 59 - 1, MOST // 3
        self.assert_fraction(
            lowest(2 * half, 2 * half - 2), (half, half - 1))
        self.assert_fraction(
            lowest(3 * third - 3, 3 * third), (third - 1, third))

    def test_numbers_that_take_the_most_divisions(self):
        lesser, greater = fibonacci_below(10 ** 60)
        self.assert_fraction(lowest(lesser, greater), (lesser, greater))
        self.assert_fraction(lowest(greater, lesser), (greater, lesser))
        lesser, greater = fibonacci_below(10 ** 59)
        self.assert_fraction(
            lowest(6 * lesser, 6 * greater), (lesser, greater))

    def test_numbers_beyond_sixty_figures_are_reckoned_too(self):
        shared = 10 ** 120 + 3
        self.assert_fraction(lowest(2 * shared, 3 * shared), (2, 3))


class LowestRefusesTest(FracsTest):

    def assert_refused(self, upper, lower):
        with self.subTest(upper=upper, lower=lower):
            with self.assertRaises(ValueError) as caught:
                lowest(upper, lower)
            refusal = caught.exception
            self.assertIs(type(refusal), errors.NoFraction)
            self.assertIsInstance(refusal, errors.FractionError)
            self.assertNotIsInstance(refusal, OTHER_REFUSALS)

    def test_upper_part_no_whole_number(self):
        for wrong in NO_WHOLE_NUMBERS:
            for lower in (1, 2, MOST):
                self.assert_refused(wrong, lower)

    def test_lower_part_no_whole_number(self):
        for wrong in NO_WHOLE_NUMBERS:
            for upper in (0, 1, 2, MOST):
                self.assert_refused(upper, wrong)

    def test_both_parts_no_whole_numbers(self):
        for wrong in NO_WHOLE_NUMBERS:
            for other in (True, False, None, "1", 1.0, [1], (1, 2), {}):
                self.assert_refused(wrong, other)

    def test_one_part_no_whole_number_and_the_other_too_low(self):
        for wrong in NO_WHOLE_NUMBERS:
            self.assert_refused(wrong, 0)
            self.assert_refused(wrong, -1)
            self.assert_refused(-1, wrong)

    def test_upper_part_below_nought(self):
        for upper in (-1, -2, -6, -10 ** 59, -MOST):
            for lower in (1, 2, 4, MOST):
                self.assert_refused(upper, lower)

    def test_lower_part_below_one(self):
        for lower in (0, -1, -2, -4, -10 ** 59, -MOST):
            for upper in (0, 1, 2, 6, MOST):
                self.assert_refused(upper, lower)

    def test_both_parts_too_low(self):
        for upper, lower in ((-1, 0), (-1, -1), (-6, -4), (-MOST, -MOST)):
            self.assert_refused(upper, lower)


class LessTest(FracsTest):

    def test_ordinary_fractions(self):
        for one, other in (
                ((1, 3), (1, 2)), ((1, 2), (2, 3)), ((3, 5), (2, 3)),
                ((5, 9), (4, 7)), ((0, 1), (1, 9)), ((7, 2), (4, 1)),
                ((4, 1), (9, 2)), ((1, 1), (2, 1)), ((2, 7), (5, 1))):
            with self.subTest(one=one, other=other):
                self.assert_less(one, other)

    def test_a_fraction_is_not_less_than_itself(self):
        for frac in ((0, 1), (1, 1), (7, 1), (1, 7), (3, 2), (MOST, 1),
                     (1, MOST), (MOST, MOST - 1), (MOST - 1, MOST)):
            with self.subTest(frac=frac):
                self.assertIs(less(frac, frac), False)
                self.assertIs(less(frac, lowest(*frac)), False)

    def test_all_small_fractions(self):
        fractions = small_fractions(9)
        for one in fractions:
            for other in fractions:
                with self.subTest(one=one, other=other):
                    self.assertIs(
                        less(one, other), Fraction(*one) < Fraction(*other))

    def test_large_fractions_that_lie_as_close_as_they_can(self):
        for figures in (58, 59, 60):
            top = 10 ** figures - 1
            with self.subTest(figures=figures):
                self.assert_less((top - 2, top - 1), (top - 1, top))
                self.assert_less((top, top - 1), (top - 1, top - 2))
                self.assert_less((1, top), (1, top - 1))
                self.assert_less((top - 1, 1), (top, 1))
                self.assert_less((0, 1), (1, top))

    def test_fibonacci_neighbours(self):
        lesser, greater = fibonacci_below(10 ** 60)
        older = greater - lesser
        difference = lesser * lesser - older * greater
        self.assertEqual(abs(difference), 1)
        pair = [(older, lesser), (lesser, greater)]
        if difference < 0:
            pair.reverse()
        self.assert_less(*pair)

    def test_large_numbers_by_half_a_step(self):
        self.assert_less((MOST // 2, 1), (MOST, 2))
        self.assert_less((MOST, 2), (MOST // 2 + 1, 1))


class ApartTest(FracsTest):

    def test_ordinary_fractions(self):
        for one, other, wanted in (
                ((1, 2), (1, 3), (1, 6)), ((3, 4), (1, 3), (5, 12)),
                ((5, 1), (2, 1), (3, 1)), ((7, 2), (1, 1), (5, 2)),
                ((2, 5), (3, 7), (1, 35))):
            with self.subTest(one=one, other=other):
                self.assert_apart(one, other, wanted)

    def test_the_answer_is_in_lowest_parts(self):
        for one, other, wanted in (
                ((1, 2), (1, 6), (1, 3)), ((5, 6), (1, 3), (1, 2)),
                ((3, 2), (1, 2), (1, 1)), ((9, 4), (1, 4), (2, 1)),
                ((7, 10), (1, 6), (8, 15))):
            with self.subTest(one=one, other=other):
                self.assert_apart(one, other, wanted)

    def test_from_nought_each_fraction_lies_itself_apart(self):
        for frac in ((1, 1), (7, 1), (1, 7), (3, 2), (MOST, 1), (1, MOST),
                     (MOST, MOST - 1)):
            with self.subTest(frac=frac):
                self.assert_apart((0, 1), frac, frac)

    def test_the_same_fraction(self):
        for frac in ((0, 1), (1, 1), (7, 1), (1, 7), (3, 2), (MOST, 1),
                     (1, MOST), (MOST, MOST - 1)):
            with self.subTest(frac=frac):
                self.assert_apart(frac, frac, (0, 1))
                self.assert_apart(frac, lowest(*frac), (0, 1))

    def test_all_small_fractions(self):
        fractions = small_fractions(9)
        for one in fractions:
            for other in fractions:
                with self.subTest(one=one, other=other):
                    gap = abs(Fraction(*one) - Fraction(*other))
                    self.assert_fraction(
                        apart(one, other), gap.as_integer_ratio())

    def test_large_fractions_that_lie_as_close_as_they_can(self):
        for figures in (58, 59, 60):
            top = 10 ** figures - 1
            with self.subTest(figures=figures):
                self.assert_apart((top - 2, top - 1), (top - 1, top),
                                  (1, top * (top - 1)))
                self.assert_apart((top, top - 1), (top - 1, top - 2),
                                  (1, (top - 1) * (top - 2)))
                self.assert_apart((1, top - 1), (1, top),
                                  (1, top * (top - 1)))
                self.assert_apart((top - 1, 1), (top, 1), (1, 1))

    def test_large_fractions_that_lie_far_apart(self):
        self.assert_apart((MOST, 1), (1, MOST), (MOST * MOST - 1, MOST))
        self.assert_apart((MOST, 2), (1, 2), (MOST // 2, 1))

    def test_large_fractions_with_a_common_divisor_below(self):
        shared = 10 ** 59 - 1
        self.assert_apart((1, 2 * shared), (1, 3 * shared),
                          (1, 6 * shared))
        self.assert_apart((shared + 1, shared), (2, shared),
                          (shared - 1, shared))


if __name__ == "__main__":
    unittest.main()
