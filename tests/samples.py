"""What several test files share: numbers, fractions, wrong values, a deadline."""

import faulthandler
import random
import unittest
from fractions import Fraction

MOST = 10 ** 60 - 1
SECONDS = 120
NO_WHOLE_NUMBERS = (
    True, False, None, "", "1", "one", b"1", 0.0, 1.0, 0.5, float("nan"),
    float("inf"), 1j, Fraction(1), Fraction(1, 2), [], [1], [1, 2], (), (1,),
    (1, 2), {}, {1: 1}, {1}, frozenset(), object(), int, range(3),
)


def start_deadline():
    """End the run with a trace where an answer does not come soon."""
    faulthandler.dump_traceback_later(SECONDS, exit=True)


def stop_deadline():
    """The answers came in time."""
    faulthandler.cancel_dump_traceback_later()


def fibonacci_below(end):
    """The two greatest neighbours of the Fibonacci numbers below an end."""
    lesser, greater = 1, 1
    while lesser + greater < end:
        lesser, greater = greater, lesser + greater
    return lesser, greater


def small_fractions(most):
    """All fractions whose parts are at most the given number."""
    pairs = [(upper, lower) for upper in range(most + 1)
             for lower in range(1, most + 1)]
    return [pair for pair in pairs
            if Fraction(*pair).as_integer_ratio() == pair]


def large_fractions(many, seed):
    """Fractions with parts of up to sixty figures, the same ones each time."""
    chance = random.Random(seed)
    found = [fibonacci_below(10 ** 60), fibonacci_below(10 ** 60)[::-1],
             (MOST, 1), (1, MOST), (MOST, MOST - 1), (MOST - 1, MOST),
             (MOST, 2), (2, MOST), (MOST // 2, MOST)]
    while len(found) < many:
        upper = chance.randrange(1, 10 ** chance.randrange(1, 61))
        lower = chance.randrange(1, 10 ** chance.randrange(1, 61))
        found.append(Fraction(upper, lower).as_integer_ratio())
    return found


def long_paths():
    """Paths of 299 runs, beginning either way, of short and of long runs."""
    chance = random.Random(299)
    found = []
    for ways in (("left", "right"), ("right", "left")):
        for often in (lambda: 1, lambda: 2, lambda: MOST, lambda: 10 ** 59,
                      lambda: chance.randrange(1, 10 ** 60)):
            found.append([(ways[at % 2], often()) for at in range(299)])
    return found


class FractionCase(unittest.TestCase):
    """Tests that look at the kinds of values, too."""

    def assert_fraction(self, given, wanted):
        """The same values, and of the very kinds: True == 1 is not enough."""
        self.assert_pair_of_numbers(given)
        # Python shows no number of over 4300 figures, so no such message.
        if max(given + wanted) > 10 ** 1000:
            self.assertTrue(given == wanted)
        else:
            self.assertEqual(given, wanted)

    def assert_pair_of_numbers(self, given):
        self.assertIs(type(given), tuple)
        self.assertEqual([type(part) for part in given], [int, int])

    def assert_pair(self, given, wanted):
        """A pair of pairs of numbers."""
        self.assertIs(type(given), tuple)
        self.assertEqual(len(given), 2)
        for part in given:
            self.assert_pair_of_numbers(part)
        self.assertEqual(given, wanted)

    def assert_path(self, given, wanted):
        """A list of runs."""
        self.assertIs(type(given), list)
        for run in given:
            self.assertIs(type(run), tuple)
            self.assertEqual([type(part) for part in run], [str, int])
        self.assertEqual(given, wanted)

    def assert_refused(self, refusal, function, *arguments):
        """Refused by this very class, and by none straight beside it."""
        with self.subTest(arguments=arguments):
            with self.assertRaises(ValueError) as caught:
                function(*arguments)
            self.assertIs(type(caught.exception), refusal)
