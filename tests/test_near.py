"""Points 7 to 13: bounds, simplest, around, nearest, records and sure."""

import inspect
import unittest
from fractions import Fraction
from math import gcd

import samples
from nearfrac import errors, near
from nearfrac.near import around, nearest, records, simplest, sure
from samples import (
    MOST, NO_WHOLE_NUMBERS, FractionCase, fibonacci_below, large_fractions,
    small_fractions,
)

setUpModule = samples.start_deadline
tearDownModule = samples.stop_deadline

NO_ROOM = NO_WHOLE_NUMBERS + (0, -1, -2, -300, -10 ** 59, -MOST)
PI = (314159265358979, 10 ** 14)


def pair(value):
    """A value as the program has it."""
    return value.as_integer_ratio()


def with_lower_parts_to(most, end):
    """All fractions with lower parts of at most `most`, up to a whole end."""
    return [(upper, lower) for lower in range(1, most + 1)
            for upper in range(end * lower + 1) if gcd(upper, lower) == 1]


def order_of_nearness(target):
    """The order of point 11: the gap, the lower part, the fraction itself."""
    return lambda frac: (abs(Fraction(*frac) - Fraction(*target)), frac[1],
                         Fraction(*frac))


def simplest_by_hand(low, high):
    """The first fraction within the bounds, by rising lower parts."""
    lower = 1
    while True:
        upper = -(-low[0] * lower // low[1])
        if Fraction(upper, lower) <= Fraction(*high):
            return upper, lower
        lower += 1


def simplest_by_turns(low, high):
    """The simplest fraction by the way of continued fractions."""
    whole = -(-low.numerator // low.denominator)
    if whole <= high:
        return Fraction(whole)
    whole -= 1
    return whole + 1 / simplest_by_turns(1 / (high - whole),
                                         1 / (low - whole))


def records_by_hand(target, most):
    """The records, straight by the words of point 12."""
    gaps = {frac: abs(Fraction(*frac) - Fraction(*target))
            for frac in with_lower_parts_to(most, target[0] // target[1] + 2)}
    found = []
    nearest_yet = None
    for lower in range(1, most + 1):
        same = [frac for frac in gaps if frac[1] == lower]
        best = min(same, key=lambda frac: (gaps[frac], frac[0]))
        if nearest_yet is None or gaps[best] < nearest_yet:
            found.append(best)
            nearest_yet = gaps[best]
    return found


class InterfaceTest(FractionCase):

    def test_each_function_is_defined_here_with_its_arguments(self):
        for name, arguments in (("simplest", ["low", "high"]),
                                ("around", ["target", "most"]),
                                ("nearest", ["target", "most"]),
                                ("records", ["target", "most"]),
                                ("sure", ["low", "high", "most"])):
            with self.subTest(name):
                function = getattr(near, name)
                self.assertEqual(function.__module__, "nearfrac.near")
                self.assertEqual(
                    list(inspect.signature(function).parameters), arguments)

    def test_arguments_may_be_named(self):
        self.assert_fraction(simplest(high=(1, 2), low=(1, 3)), (1, 2))
        self.assert_pair(around(most=2, target=(1, 3)), ((0, 1), (1, 2)))
        self.assert_fraction(nearest(most=2, target=(1, 3)), (1, 2))
        self.assertEqual(records(most=2, target=(1, 3)), [(0, 1), (1, 2)])
        self.assert_fraction(
            sure(most=2, low=(1, 3), high=(2, 5)), (1, 2))


class SimplestTest(FractionCase):
    """Points 7 and 8."""

    def test_ordinary_bounds(self):
        for low, high, wanted in (
                ((13, 40), (67, 200), (1, 3)),
                ((314, 100), (315, 100), (22, 7)),
                ((3, 10), (2, 5), (1, 3)), ((5, 7), (3, 4), (3, 4)),
                ((7, 10), (5, 7), (5, 7)), ((71, 100), (72, 100), (5, 7))):
            with self.subTest(low=low, high=high):
                self.assert_fraction(
                    simplest(pair(Fraction(*low)), pair(Fraction(*high))),
                    wanted)

    def test_all_small_bounds(self):
        fractions = small_fractions(10)
        for low in fractions:
            for high in fractions:
                if Fraction(*low) <= Fraction(*high):
                    with self.subTest(low=low, high=high):
                        self.assert_fraction(
                            simplest(low, high), simplest_by_hand(low, high))

    def test_both_bounds_are_let_in(self):
        self.assert_fraction(simplest((1, 3), (2, 5)), (1, 3))
        self.assert_fraction(simplest((2, 5), (1, 2)), (1, 2))
        self.assert_fraction(simplest((5, 2), (3, 1)), (3, 1))
        self.assert_fraction(simplest((2, 1), (7, 3)), (2, 1))

    def test_the_least_of_several_whole_numbers(self):
        self.assert_fraction(simplest((5, 2), (9, 2)), (3, 1))
        self.assert_fraction(simplest((2, 1), (9, 1)), (2, 1))
        self.assert_fraction(simplest((1, 2), (MOST, 1)), (1, 1))
        self.assert_fraction(
            simplest((10 ** 59, 1), (MOST, 1)), (10 ** 59, 1))
        self.assert_fraction(
            simplest((MOST, 2), (MOST, 1)), (MOST // 2 + 1, 1))

    def test_nought_as_the_low_bound(self):
        for high in ((0, 1), (1, 1), (1, 2), (1, MOST), (MOST, 1), (7, 3)):
            self.assert_fraction(simplest((0, 1), high), (0, 1))

    def test_bounds_that_are_the_same(self):
        for frac in small_fractions(12) + large_fractions(100, 8):
            with self.subTest(frac=frac):
                self.assert_fraction(simplest(frac, frac), frac)

    def test_bounds_of_sixty_figures(self):
        for figures in (58, 59, 60):
            top = 10 ** figures - 1
            with self.subTest(figures=figures):
                self.assert_fraction(
                    simplest((top - 2, top - 1), (top - 1, top)),
                    (top - 2, top - 1))
                self.assert_fraction(
                    simplest((1, top), (1, top - 2)), (1, top - 2))
                self.assert_fraction(
                    simplest((1, top), (2, top)), (1, top // 2 + 1))

    def test_large_bounds_by_the_other_way(self):
        fractions = large_fractions(80, 7)
        for one, other in zip(fractions, fractions[1:] + fractions[:1]):
            low, high = sorted((Fraction(*one), Fraction(*other)))
            close = low + Fraction(1, high.denominator)
            for high in (high, close, low + Fraction(1, 10 ** 60)):
                with self.subTest(low=low, high=high):
                    self.assert_fraction(
                        simplest(pair(low), pair(high)),
                        pair(simplest_by_turns(low, high)))

    def test_bounds_with_the_most_runs(self):
        lesser, greater = fibonacci_below(10 ** 60)
        older = greater - lesser
        low, high = sorted((Fraction(older, lesser),
                            Fraction(lesser, greater)))
        self.assert_fraction(
            simplest(pair(low), pair(high)), (older, lesser))

    def test_a_low_bound_greater_than_the_high_one_is_refused(self):
        for low, high in (
                ((1, 2), (1, 3)), ((1, 1), (0, 1)), ((1, MOST), (0, 1)),
                ((3, 1), (2, 1)), ((MOST, 1), (MOST - 1, 1)),
                ((MOST, MOST - 1), (1, 1)),
                ((1, MOST - 1), (1, MOST)),
                ((MOST - 1, MOST), (MOST - 2, MOST - 1))):
            self.assert_refused(errors.NoBounds, simplest, low, high)


class RoomTest(FractionCase):
    """Point 9."""

    def test_a_most_that_lets_in_nothing_is_refused(self):
        for most in NO_ROOM:
            for target in ((0, 1), (1, 1), (7, 1), (22, 7), (1, MOST)):
                for function in (around, nearest, records):
                    self.assert_refused(
                        errors.NoRoom, function, target, most)
                self.assert_refused(
                    errors.NoRoom, sure, target, target, most)

    def test_it_is_refused_ahead_of_all_else(self):
        for most in NO_ROOM:
            # With room these bounds would be refused with NoBounds, Unsure.
            self.assert_refused(errors.NoRoom, sure, (1, 2), (1, 3), most)
            self.assert_refused(errors.NoRoom, sure, (0, 1), (9, 1), most)

    def test_a_most_of_one_lets_in_the_whole_numbers(self):
        for target in small_fractions(12) + large_fractions(60, 9):
            with self.subTest(target=target):
                whole, rest = divmod(*target)
                above = whole + (rest > 0)
                self.assert_pair(
                    around(target, 1), ((whole, 1), (above, 1)))
                by_hand = whole if 2 * rest <= target[1] else above
                self.assert_fraction(nearest(target, 1), (by_hand, 1))
                self.assertEqual(records(target, 1), [(by_hand, 1)])
                self.assert_fraction(
                    sure(target, target, 1), (by_hand, 1))


class AroundTest(FractionCase):
    """Point 10."""

    def test_ordinary_targets(self):
        for target, most, wanted in (
                ((1, 3), 2, ((0, 1), (1, 2))), ((22, 7), 6, ((3, 1), (19, 6))),
                ((5, 7), 4, ((2, 3), (3, 4))), ((9, 10), 5, ((4, 5), (1, 1))),
                (PI, 100, ((311, 99), (22, 7))),
                (PI, 113, ((333, 106), (355, 113)))):
            with self.subTest(target=target, most=most):
                self.assert_pair(around(pair(Fraction(*target)), most), wanted)

    def test_all_small_targets(self):
        for most in range(1, 11):
            let_in = with_lower_parts_to(most, 4)
            for target in small_fractions(24):
                value = Fraction(*target)
                if value > 3:
                    continue
                below = max(Fraction(*frac) for frac in let_in
                            if Fraction(*frac) <= value)
                above = min(Fraction(*frac) for frac in let_in
                            if Fraction(*frac) >= value)
                with self.subTest(target=target, most=most):
                    self.assert_pair(
                        around(target, most), (pair(below), pair(above)))

    def test_the_target_itself_where_its_lower_part_is_let_in(self):
        for target in small_fractions(9) + large_fractions(60, 10):
            for most in (target[1], target[1] + 1, target[1] + 7, MOST):
                with self.subTest(target=target, most=most):
                    self.assert_pair(around(target, most), (target, target))

    def test_not_the_target_where_its_lower_part_is_one_too_great(self):
        for target in small_fractions(25) + large_fractions(100, 11):
            if target[1] > 1:
                with self.subTest(target=target):
                    self.assert_close(target, target[1] - 1)

    def test_targets_and_room_of_up_to_sixty_figures(self):
        for target in large_fractions(60, 12):
            for power in range(0, 60, 3):
                most = 10 ** power + 1
                if most < target[1]:
                    with self.subTest(target=target, most=most):
                        self.assert_close(target, most)

    def test_targets_close_to_a_simple_one(self):
        half = (MOST // 2, MOST)
        self.assertEqual(gcd(*half), 1)
        self.assert_close(half, 10 ** 59)
        self.assert_pair(
            around((1, MOST), MOST - 1), ((0, 1), (1, MOST - 1)))
        self.assert_pair(
            around((MOST - 1, MOST), MOST - 1),
            ((MOST - 2, MOST - 1), (1, 1)))
        self.assert_pair(
            around((MOST, MOST - 1), 10 ** 59),
            ((1, 1), (10 ** 59 + 1, 10 ** 59)))

    def assert_close(self, target, most):
        """Two neighbours around the target, with no room for their child."""
        low, high = around(target, most)
        self.assert_pair_of_numbers(low)
        self.assert_pair_of_numbers(high)
        self.assertLess(Fraction(*low), Fraction(*target))
        self.assertLess(Fraction(*target), Fraction(*high))
        self.assertTrue(1 <= low[1] <= most and 1 <= high[1] <= most)
        self.assertEqual(high[0] * low[1] - low[0] * high[1], 1)
        self.assertGreater(low[1] + high[1], most)


class NearestTest(FractionCase):
    """Point 11."""

    def test_ordinary_targets(self):
        for target, most, wanted in (
                ((1, 3), 2, (1, 2)), (PI, 7, (22, 7)), (PI, 100, (311, 99)),
                (PI, 112, (333, 106)), (PI, 113, (355, 113)),
                ((5, 7), 4, (3, 4)), ((9, 10), 5, (1, 1)), ((1, 9), 3, (0, 1))):
            with self.subTest(target=target, most=most):
                self.assert_fraction(
                    nearest(pair(Fraction(*target)), most), wanted)

    def test_all_small_targets(self):
        for most in range(1, 9):
            let_in = with_lower_parts_to(most, 4)
            for target in small_fractions(30):
                if target[0] <= 3 * target[1]:
                    wanted = min(let_in, key=order_of_nearness(target))
                    with self.subTest(target=target, most=most):
                        self.assert_fraction(nearest(target, most), wanted)

    def test_of_two_equally_far_apart_the_lesser_lower_part(self):
        for target, most, wanted in (
                ((1, 4), 2, (0, 1)), ((3, 4), 2, (1, 1)),
                ((5, 12), 3, (1, 2)), ((7, 12), 3, (1, 2)),
                ((5, 4), 2, (1, 1)), ((7, 4), 2, (2, 1))):
            with self.subTest(target=target, most=most):
                self.assert_fraction(nearest(target, most), wanted)

    def test_of_two_whole_numbers_equally_far_apart_the_lesser_one(self):
        for whole in (0, 1, 2, 7, 10 ** 58, MOST // 2 - 1):
            self.assert_fraction(
                nearest((2 * whole + 1, 2), 1), (whole, 1))

    def test_halfway_between_each_two_neighbours(self):
        for most in range(1, 12):
            let_in = sorted(with_lower_parts_to(most, 3),
                            key=lambda frac: Fraction(*frac))
            for low, high in zip(let_in, let_in[1:]):
                middle = pair((Fraction(*low) + Fraction(*high)) / 2)
                wanted = high if high[1] < low[1] else low
                with self.subTest(middle=middle, most=most):
                    self.assert_fraction(nearest(middle, most), wanted)

    def test_halfway_between_large_neighbours(self):
        most = 10 ** 29
        low, high = (most - 2, most - 1), (most - 1, most)
        middle = pair((Fraction(*low) + Fraction(*high)) / 2)
        self.assertLess(middle[1], 10 ** 60)
        self.assert_fraction(nearest(middle, most), low)
        low, high = (1, most), (1, most - 1)
        middle = pair((Fraction(*low) + Fraction(*high)) / 2)
        self.assert_fraction(nearest(middle, most), high)

    def test_the_target_itself_where_its_lower_part_is_let_in(self):
        for target in small_fractions(9) + large_fractions(60, 13):
            for most in (target[1], target[1] + 1, MOST):
                with self.subTest(target=target, most=most):
                    self.assert_fraction(nearest(target, most), target)

    def test_large_targets_by_the_other_way(self):
        for target in large_fractions(60, 14):
            for power in range(0, 61, 3):
                most = 10 ** power + 7
                value = Fraction(*target)
                found = nearest(target, most)
                other = value.limit_denominator(most)
                with self.subTest(target=target, most=most):
                    self.assert_pair_of_numbers(found)
                    self.assertEqual(gcd(*found), 1)
                    self.assertLessEqual(found[1], most)
                    self.assertEqual(
                        abs(Fraction(*found) - value), abs(other - value))


class RecordsTest(FractionCase):
    """Point 12."""

    def assert_records(self, given, wanted):
        self.assertIs(type(given), list)
        for frac in given:
            self.assert_pair_of_numbers(frac)
        self.assertEqual(given, wanted)

    def test_ordinary_targets(self):
        self.assert_records(records(PI, 300), [
            (3, 1), (13, 4), (16, 5), (19, 6), (22, 7), (179, 57), (201, 64),
            (223, 71), (245, 78), (267, 85), (289, 92), (311, 99), (333, 106),
            (355, 113)])
        self.assert_records(
            records((5, 7), 9), [(1, 1), (1, 2), (2, 3), (3, 4), (5, 7)])
        self.assert_records(records((5, 7), 3), [(1, 1), (1, 2), (2, 3)])

    def test_all_small_targets(self):
        for most in (1, 2, 3, 5, 8, 13, 20):
            for target in small_fractions(17):
                with self.subTest(target=target, most=most):
                    self.assert_records(
                        records(target, most), records_by_hand(target, most))

    def test_two_whole_numbers_equally_far_apart(self):
        self.assert_records(records((1, 2), 1), [(0, 1)])
        self.assert_records(records((1, 2), 2), [(0, 1), (1, 2)])
        self.assert_records(records((7, 2), 1), [(3, 1)])
        self.assert_records(records((7, 2), 9), [(3, 1), (7, 2)])
        self.assert_records(
            records((MOST, 2), 300), [(MOST // 2, 1), (MOST, 2)])

    def test_equally_far_apart_is_not_nearer(self):
        # One half lies as far from one quarter as nought does.
        self.assert_records(
            records((1, 4), 4), [(0, 1), (1, 3), (1, 4)])

    def test_whole_targets(self):
        for whole in (0, 1, 7, 10 ** 59, MOST):
            for most in (1, 2, 300):
                self.assert_records(
                    records((whole, 1), most), [(whole, 1)])

    def test_the_list_ends_with_the_target_where_that_is_let_in(self):
        for target in ((5, 7), (1, 300), (299, 300), (MOST, 298), (44, 13)):
            self.assertEqual(gcd(*target), 1)
            with self.subTest(target=target):
                for most in (target[1], 300):
                    self.assertEqual(records(target, most)[-1], target)
                self.assertNotIn(target, records(target, target[1] - 1))

    def test_large_targets(self):
        for target in large_fractions(20, 15):
            near_nought = target[0] % target[1], target[1]
            for most in (1, 2, 30):
                whole = target[0] // target[1]
                wanted = [(upper + whole * lower, lower) for upper, lower
                          in records_by_hand(near_nought, most)]
                with self.subTest(target=target, most=most):
                    self.assert_records(records(target, most), wanted)

    def test_the_most_room_for_which_something_is_promised(self):
        self.assert_records(
            records((1, MOST), 300), [(0, 1)])
        self.assert_records(
            records((MOST - 1, MOST), 300), [(1, 1)])
        for target in ((141421356237309505, 10 ** 17), PI, (7, 299)):
            target = pair(Fraction(*target))
            self.assert_records(
                records(target, 300), records_by_hand(target, 300))

    def test_the_list_is_the_callers_own(self):
        for target in (PI, (7, 1), (5, 7)):
            before = list(records(target, 100))
            records(target, 100).clear()
            records(target, 100).append("anything")
            self.assert_records(records(target, 100), before)


class SureTest(FractionCase):
    """Point 13."""

    def test_ordinary_bounds(self):
        for low, high, most, wanted in (
                ((3, 10), (7, 20), 3, (1, 3)), ((31, 10), (32, 10), 6, None),
                ((305, 100), (314, 100), 7, None),
                ((314, 100), (315, 100), 7, (22, 7)),
                ((1, 3), (2, 5), 2, (1, 2)), ((1, 5), (1, 3), 2, None)):
            with self.subTest(low=low, high=high, most=most):
                low, high = pair(Fraction(*low)), pair(Fraction(*high))
                if wanted is None:
                    self.assert_refused(errors.Unsure, sure, low, high, most)
                else:
                    self.assert_fraction(sure(low, high, most), wanted)

    def test_all_small_bounds(self):
        for most in (1, 2, 3, 5):
            let_in = with_lower_parts_to(most, 3)
            targets = sorted(
                (frac for frac in small_fractions(12)
                 if frac[0] <= 2 * frac[1]), key=lambda frac: Fraction(*frac))
            near_to = [min(let_in, key=order_of_nearness(target))
                       for target in targets]
            for low_at, low in enumerate(targets):
                for high_at in range(low_at, len(targets)):
                    wanted = set(near_to[low_at:high_at + 1])
                    with self.subTest(low=low, high=targets[high_at]):
                        self.assert_only(
                            wanted, low, targets[high_at], most)

    def assert_only(self, wanted, low, high, most):
        """The one fraction wanted, or refused where there are several."""
        try:
            given = sure(low, high, most)
        except errors.Unsure:
            self.assertGreater(len(wanted), 1)
        else:
            self.assertEqual({given}, wanted)

    def test_bounds_up_to_halfway(self):
        # Halfway counts to the lesser lower part, or to the lesser fraction.
        self.assert_fraction(sure((0, 1), (1, 4), 2), (0, 1))
        self.assert_refused(errors.Unsure, sure, (1, 4), (1, 3), 2)
        self.assert_fraction(sure((3, 4), (1, 1), 2), (1, 1))
        self.assert_refused(errors.Unsure, sure, (2, 3), (3, 4), 2)
        self.assert_fraction(sure((1, 1), (3, 2), 1), (1, 1))
        self.assert_refused(errors.Unsure, sure, (3, 2), (2, 1), 1)

    def test_bounds_up_to_halfway_of_sixty_figures(self):
        end = (10 ** 60 - 1) // 3
        halfway = (MOST, 2)
        self.assert_fraction(
            sure((MOST // 2, 1), halfway, 1), (MOST // 2, 1))
        self.assert_refused(
            errors.Unsure, sure, halfway, (MOST // 2 + 1, 1), 1)
        self.assert_fraction(
            sure((1, 2 * end - 1), (1, end), end), (1, end))
        self.assert_refused(
            errors.Unsure, sure, (1, 2 * end), (1, end), end)
        self.assert_fraction(sure((0, 1), (1, 2 * end), end), (0, 1))

    def test_bounds_that_are_the_same(self):
        for target in small_fractions(9) + large_fractions(60, 16):
            for most in (1, 2, 7, target[1], MOST):
                with self.subTest(target=target, most=most):
                    self.assert_fraction(
                        sure(target, target, most), nearest(target, most))

    def test_bounds_that_have_room_themselves(self):
        self.assert_refused(errors.Unsure, sure, (1, 3), (1, 2), 3)
        self.assert_refused(errors.Unsure, sure, (0, 1), (MOST, 1), MOST)
        self.assert_refused(errors.Unsure, sure, (0, 1), (1, MOST), MOST)

    def test_a_low_bound_greater_than_the_high_one_is_refused(self):
        for low, high in (
                ((1, 2), (1, 3)), ((1, 1), (0, 1)), ((3, 1), (2, 1)),
                ((MOST, 1), (MOST - 1, 1)), ((1, MOST - 1), (1, MOST)),
                ((MOST - 1, MOST), (MOST - 2, MOST - 1))):
            # Ahead of Unsure: with much room both would be told.
            for most in (1, 2, 300, MOST):
                self.assert_refused(errors.NoBounds, sure, low, high, most)


if __name__ == "__main__":
    unittest.main()
