"""Points 4 to 6: the tree, sides, path_of and at_path."""

import copy
import inspect
import unittest
from fractions import Fraction

import samples
from nearfrac import errors, tree
from nearfrac.tree import at_path, path_of, sides
from samples import (
    MOST, FractionCase, fibonacci_below, large_fractions, long_paths,
    small_fractions,
)

setUpModule = samples.start_deadline
tearDownModule = samples.stop_deadline

DEPTH = 10


def child(left, right):
    """The child of two neighbours, as point 4 tells."""
    return left[0] + right[0], left[1] + right[1]


def places(depth):
    """The tree down to a depth, step by step: (neighbours, single ways)."""
    row = [(((0, 1), (1, 0)), [])]
    found = list(row)
    for _ in range(depth):
        below = []
        for (left, right), ways in row:
            frac = child(left, right)
            below.append(((left, frac), ways + ["left"]))
            below.append(((frac, right), ways + ["right"]))
        row = below
        found += row
    return found


def runs(ways):
    """Single ways, put together into runs."""
    found = []
    for way in ways:
        if found and found[-1][0] == way:
            found[-1] = (way, found[-1][1] + 1)
        else:
            found.append((way, 1))
    return found


class InterfaceTest(FractionCase):

    def test_each_function_is_defined_here_with_its_arguments(self):
        for name, arguments in (("sides", ["frac"]), ("path_of", ["frac"]),
                                ("at_path", ["path"])):
            with self.subTest(name):
                function = getattr(tree, name)
                self.assertEqual(function.__module__, "nearfrac.tree")
                self.assertEqual(
                    list(inspect.signature(function).parameters), arguments)

    def test_arguments_may_be_named(self):
        self.assert_pair(sides(frac=(3, 2)), ((1, 1), (2, 1)))
        self.assert_path(path_of(frac=(3, 2)), [("right", 1), ("left", 1)])
        self.assert_fraction(at_path(path=[("right", 1)]), (2, 1))


class TreeTest(FractionCase):
    """Point 4."""

    def test_each_place_as_one_gets_there_step_by_step(self):
        for neighbours, ways in places(DEPTH):
            frac = child(*neighbours)
            with self.subTest(frac=frac):
                self.assert_pair(sides(frac), neighbours)
                self.assert_path(path_of(frac), runs(ways))
                self.assert_fraction(at_path(runs(ways)), frac)

    def test_each_fraction_but_nought_stands_there_once(self):
        paths = [tuple(path_of(frac)) for frac in small_fractions(40)
                 if frac != (0, 1)]
        self.assertEqual(len(set(paths)), len(paths))
        for frac in small_fractions(40):
            if frac != (0, 1):
                self.assert_fraction(at_path(path_of(frac)), frac)

    def test_left_is_to_the_child_of_the_left_neighbour_and_itself(self):
        for frac in small_fractions(20)[1:]:
            if frac == (0, 1):
                continue
            with self.subTest(frac=frac):
                left, right = sides(frac)
                path = path_of(frac)
                for way, neighbours in (("left", (left, frac)),
                                        ("right", (frac, right))):
                    if path and path[-1][0] == way:
                        step = path[:-1] + [(way, path[-1][1] + 1)]
                    else:
                        step = path + [(way, 1)]
                    self.assert_fraction(at_path(step), child(*neighbours))
                    self.assert_pair(sides(at_path(step)), neighbours)


class SidesTest(FractionCase):
    """Point 5."""

    def test_ordinary_fractions(self):
        for frac, wanted in (
                ((3, 2), ((1, 1), (2, 1))), ((2, 3), ((1, 2), (1, 1))),
                ((5, 7), ((2, 3), (3, 4))), ((22, 7), ((3, 1), (19, 6))),
                ((2, 5), ((1, 3), (1, 2))), ((8, 5), ((3, 2), (5, 3)))):
            with self.subTest(frac=frac):
                self.assert_pair(sides(frac), wanted)

    def test_the_top(self):
        self.assert_pair(sides((1, 1)), ((0, 1), (1, 0)))

    def test_whole_numbers_have_the_end_above_all_at_their_right(self):
        for whole in (1, 2, 3, 7, 10 ** 59, MOST):
            self.assert_pair(
                sides((whole, 1)), ((whole - 1, 1), (1, 0)))

    def test_parts_of_one_have_nought_at_their_left(self):
        for lower in (2, 3, 7, 10 ** 59, MOST):
            self.assert_pair(
                sides((1, lower)), ((0, 1), (1, lower - 1)))

    def test_nought_is_refused(self):
        self.assert_refused(errors.NoPath, sides, (0, 1))

    def test_small_and_large_fractions_are_the_child_of_their_sides(self):
        for frac in small_fractions(25) + large_fractions(200, 5):
            if frac == (0, 1):
                continue
            with self.subTest(frac=frac):
                left, right = sides(frac)
                self.assert_fraction(child(left, right), frac)
                self.assertEqual(right[0] * left[1] - left[0] * right[1], 1)
                self.assertGreaterEqual(min(left + right), 0)
                self.assertGreaterEqual(left[1], 1)

    def test_fibonacci_numbers(self):
        lesser, greater = fibonacci_below(10 ** 60)
        older = greater - lesser
        oldest = lesser - older
        wanted = [(oldest, older), (older, lesser)]
        wanted.sort(key=lambda pair: Fraction(*pair))
        self.assert_pair(sides((lesser, greater)), tuple(wanted))


class PathOfTest(FractionCase):
    """Point 6, from a fraction to its path."""

    def test_ordinary_fractions(self):
        for frac, wanted in (
                ((3, 2), [("right", 1), ("left", 1)]),
                ((2, 3), [("left", 1), ("right", 1)]),
                ((22, 7), [("right", 3), ("left", 6)]),
                ((7, 22), [("left", 3), ("right", 6)]),
                ((5, 7), [("left", 1), ("right", 2), ("left", 1)]),
                ((355, 113), [("right", 3), ("left", 7), ("right", 15)])):
            with self.subTest(frac=frac):
                self.assert_path(path_of(frac), wanted)

    def test_the_top(self):
        self.assert_path(path_of((1, 1)), [])

    def test_whole_numbers(self):
        for whole in (2, 3, 7, 10 ** 59, MOST):
            self.assert_path(path_of((whole, 1)), [("right", whole - 1)])

    def test_parts_of_one(self):
        for lower in (2, 3, 7, 10 ** 59, MOST):
            self.assert_path(path_of((1, lower)), [("left", lower - 1)])

    def test_nought_is_refused(self):
        self.assert_refused(errors.NoPath, path_of, (0, 1))

    def test_fibonacci_numbers_have_the_most_runs(self):
        lesser, greater = fibonacci_below(10 ** 60)
        path = path_of((greater, lesser))
        self.assertGreater(len(path), 280)
        self.assertEqual({often for _, often in path}, {1})
        self.assert_fraction(at_path(path), (greater, lesser))

    def test_large_fractions(self):
        for frac in large_fractions(200, 6):
            with self.subTest(frac=frac):
                path = path_of(frac)
                self.assert_path(path, path)
                self.assert_fraction(at_path(path), frac)
                for run, behind in zip(path, path[1:]):
                    self.assertNotEqual(run[0], behind[0])
                self.assertTrue(all(often >= 1 for _, often in path))

    def test_the_list_is_the_callers_own(self):
        for frac in ((1, 1), (3, 2), (MOST, MOST - 1)):
            before = list(path_of(frac))
            path_of(frac).append("anything")
            path_of(frac).clear()
            self.assert_path(path_of(frac), before)


class AtPathTest(FractionCase):
    """Point 6, from a path to its fraction."""

    def test_ordinary_paths(self):
        for path, wanted in (
                ([("right", 1)], (2, 1)), ([("left", 1)], (1, 2)),
                ([("right", 3), ("left", 6)], (22, 7)),
                ([("left", 1), ("right", 2), ("left", 1)], (5, 7)),
                ([("right", 3), ("left", 7), ("right", 15)], (355, 113))):
            with self.subTest(path=path):
                self.assert_fraction(at_path(path), wanted)

    def test_the_path_with_no_run_leads_to_the_top(self):
        self.assert_fraction(at_path([]), (1, 1))

    def test_one_run_of_sixty_figures(self):
        self.assert_fraction(at_path([("right", MOST)]), (MOST + 1, 1))
        self.assert_fraction(at_path([("left", MOST)]), (1, MOST + 1))
        self.assert_fraction(
            at_path([("left", MOST), ("right", MOST)]),
            (MOST + 1, (MOST + 1) ** 2 - MOST))

    def test_paths_of_299_runs(self):
        for path in long_paths():
            self.assertEqual(len(path), 299)
            frac = at_path(path)
            self.assert_pair_of_numbers(frac)
            self.assert_path(path_of(frac), path)
            left, right = sides(frac)
            self.assertTrue(child(left, right) == frac)

    def test_299_runs_of_one_are_fibonacci_numbers(self):
        lesser, greater = 1, 1
        for _ in range(299):
            lesser, greater = greater, lesser + greater
        ways = [("right", 1), ("left", 1)] * 150
        self.assert_fraction(at_path(ways[:299]), (greater, lesser))
        self.assert_fraction(at_path(ways[1:]), (lesser, greater))

    def test_the_path_is_not_changed(self):
        for path in [[], [("left", 2), ("right", 3)]] + long_paths():
            before = copy.deepcopy(path)
            first = at_path(path)
            self.assert_path(path, before)
            self.assertTrue(at_path(path) == first)

    def test_another_text_as_a_way_is_refused(self):
        for way in ("", "Left", "LEFT", "L", "R", "left ", " right", "up",
                    "leftright", "top", "rightleft", "lef", "ight"):
            self.assert_refused(errors.NoPath, at_path, [(way, 1)])
            self.assert_refused(
                errors.NoPath, at_path, [("left", 2), (way, 1)])
            self.assert_refused(
                errors.NoPath, at_path, [(way, 1), ("left", 2)])
            self.assert_refused(
                errors.NoPath, at_path,
                [("left", 2), (way, MOST), ("right", 2)])

    def test_a_number_below_one_is_refused(self):
        for often in (0, -1, -2, -10 ** 59, -MOST):
            for way, other in (("left", "right"), ("right", "left")):
                for path in ([(way, often)], [(other, 1), (way, often)],
                             [(way, often), (other, 1)],
                             [(other, 1), (way, often), (other, 1)]):
                    self.assert_refused(errors.NoPath, at_path, path)

    def test_the_same_way_as_the_run_ahead_is_refused(self):
        for way, other in (("left", "right"), ("right", "left")):
            for path in ([(way, 1), (way, 1)], [(way, 1), (way, 2)],
                         [(other, 1), (way, 2), (way, 3)],
                         [(way, 2), (way, 3), (other, 1)],
                         [(way, MOST), (way, MOST)]):
                self.assert_refused(errors.NoPath, at_path, path)

    def test_the_last_of_299_runs_is_looked_at_too(self):
        good = [("left", 1), ("right", 1)] * 149
        self.assert_path(
            path_of(at_path(good + [("left", 2)])), good + [("left", 2)])
        for run in (("right", 1), ("left", 0), ("left", -1), ("down", 1)):
            self.assert_refused(errors.NoPath, at_path, good + [run])


if __name__ == "__main__":
    unittest.main()
