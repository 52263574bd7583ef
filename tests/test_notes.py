"""Points 14 to 16: shown, read, told and guess."""

import copy
import inspect
import string
import unittest
from fractions import Fraction

import samples
from nearfrac import errors, notes
from nearfrac.notes import guess, read, shown, told
from nearfrac.tree import path_of
from samples import (
    MOST, FractionCase, large_fractions, long_paths, small_fractions,
)

setUpModule = samples.start_deadline
tearDownModule = samples.stop_deadline

SIGNS = [chr(code) for code in range(ord(" "), ord("~") + 1) if code != 37]
WRITTEN = (
    ([], "top"), ([("left", 1)], "L1"), ([("right", 1)], "R1"),
    ([("right", 3), ("left", 6)], "R3 L6"),
    ([("left", 1), ("right", 2), ("left", 1)], "L1 R2 L1"),
    ([("right", 10), ("left", 205)], "R10 L205"),
    ([("left", MOST)], "L" + "9" * 60),
    ([("right", 10 ** 59), ("left", 7)], "R1" + "0" * 59 + " L7"),
)
NO_PATHS = (
    # Other signs, and none.
    "", " ", "l1", "r1", "left1", "U1", "1", "L", "R", "L R", "LR", "1L",
    "L1R1", "L1,R1", "L1;R1", "L1-R1", "L-1", "L+1", "L1.0", "L1.", "L1e2",
    "L1_0", "L1x", "xL1", "L1 2", "L1 x", "LL1", "RL1", "Lx", "L1\tR1",
    "L1\n", "\nL1", "L1\nR1", "[]", "()", "('left', 1)", "L'1'", "L0x1",
    # The top in other words.
    "Top", "TOP", "to", "topp", "top.", "toptop", "t", "L1 top", "top L1",
    "top top", "R1 top L1",
    # A blank too many or too few.
    " L1", "L1 ", "L1  R1", " L1 R1", "L1 R1 ", "L 1", "L1 R 1", "L1R1 L1",
    " top", "top ", "to p", "L1   R1", "  ", "L 1 R 1", "L1 0",
    # Noughts ahead.
    "L0", "R0", "L00", "L01", "R007", "L1 R0", "L1 R01", "L0 R1", "L01 R1",
    "L0" + "1" * 59, "R" + "0" * 60,
    # Two runs of the same way one behind the other.
    "L1 L1", "R1 R2", "L1 R1 R1", "R1 R1 L1", "L1 R1 L1 L1",
    "L" + "9" * 60 + " L1",
    # Figures, but not 0 to 9.
    "L\u0663", "R1\u00b2", "L\uff11",
)
BOUNDS = (
    ("2.50", ((499, 200), (501, 200))), ("3", ((5, 2), (7, 2))),
    ("0", ((0, 1), (1, 2))), ("1", ((1, 2), (3, 2))),
    ("0.0", ((0, 1), (1, 20))), ("0.00", ((0, 1), (1, 200))),
    ("0.1", ((1, 20), (3, 20))), ("0.01", ((1, 200), (3, 200))),
    ("0.5", ((9, 20), (11, 20))), ("2.5", ((49, 20), (51, 20))),
    ("10", ((19, 2), (21, 2))), ("10.0", ((199, 20), (201, 20))),
    ("0.33", ((13, 40), (67, 200))), ("100", ((199, 2), (201, 2))),
    ("3.14159", ((628317, 200000), (628319, 200000))),
    ("0.000", ((0, 1), (1, 2000))), ("7.007", ((14013, 2000), (2803, 400))),
)
NO_DECIMALS = (
    "", " ", ".", "..", "x", "one", "-", "+", "e", "nan", "inf", "e5",
    # A point without figures.
    ".5", "5.", "0.", ".0", "1..2", "1.2.3", "1.2.", ".1.2", "..1", "1..",
    # Noughts ahead.
    "00", "01", "007", "00.5", "01.5", "000.0", "00.0", "0" * 59, "0" * 60,
    "0" * 30 + "." + "5" * 30, "0" + "1" * 59,
    # Other signs.
    "-1", "+1", "-0", "+0.5", "1-", "1e5", "1E5", "1.5e2", "1,5", "1,000",
    "1_000", "1.5_0", "0x1", "1/2", "1'000", "1.-5", "1.+5", "1.x", "x.1",
    "$1", "1j", "1L", "(1)", "#1",
    # Blanks.
    " 1", "1 ", "1 2", "1. 5", "1 .5", " 1.5", "1.5 ", "1\t", "1\n", "\n1",
    "1.5\n", "1.\n",
    # Figures, but not 0 to 9.
    "\u0663", "1.\u0663", "1\u00b2", "\u00b2.5", "\uff11",
)


class InterfaceTest(FractionCase):

    def test_each_function_is_defined_here_with_its_arguments(self):
        for name, argument in (("shown", "path"), ("read", "line"),
                               ("told", "line"), ("guess", "line")):
            with self.subTest(name):
                function = getattr(notes, name)
                self.assertEqual(function.__module__, "nearfrac.notes")
                self.assertEqual(
                    list(inspect.signature(function).parameters), [argument])

    def test_arguments_may_be_named(self):
        self.assertEqual(shown(path=[("left", 1)]), "L1")
        self.assert_path(read(line="L1"), [("left", 1)])
        self.assert_pair(told(line="3"), ((5, 2), (7, 2)))
        self.assert_fraction(guess(line="0.33"), (1, 3))


class PathTextTest(FractionCase):
    """Point 14."""

    def test_paths_are_written(self):
        for path, line in WRITTEN:
            with self.subTest(line):
                given = shown(path)
                self.assertIs(type(given), str)
                self.assertEqual(given, line)

    def test_texts_are_read(self):
        for path, line in WRITTEN:
            with self.subTest(line):
                self.assert_path(read(line), path)

    def test_the_path_with_no_run(self):
        self.assertEqual(shown([]), "top")
        self.assert_path(read("top"), [])

    def test_paths_of_299_runs(self):
        signs = {"left": "L", "right": "R"}
        for path in long_paths():
            line = shown(path)
            words = line.split(" ")
            self.assertEqual(len(words), 299)
            for word, (way, often) in zip(words, path):
                self.assertEqual(word, f"{signs[way]}{often}")
            self.assert_path(read(line), path)
            self.assert_refused(errors.NoText, read, line + " ")
            self.assert_refused(errors.NoText, read, " " + line)
            self.assert_refused(errors.NoText, read, line + " " + words[-1])
            self.assert_refused(
                errors.NoText, read, line.replace(" ", "  ", 1))

    def test_the_paths_of_fractions_there_and_back(self):
        for frac in small_fractions(20) + large_fractions(60, 17):
            if frac != (0, 1):
                with self.subTest(frac=frac):
                    path = path_of(frac)
                    self.assert_path(read(shown(path)), path)

    def test_a_text_that_writes_no_path_is_refused(self):
        for line in NO_PATHS:
            self.assert_refused(errors.NoText, read, line)

    def test_each_single_sign_is_refused(self):
        for sign in SIGNS:
            self.assert_refused(errors.NoText, read, sign)

    def test_each_sign_put_into_a_text(self):
        for sign in SIGNS:
            for at in range(6):
                line = "R3 L6"[:at] + sign + "R3 L6"[at:]
                # Only figures behind a way make another path of it, but
                # for a nought straight behind it.
                if sign in string.digits and (
                        at in (2, 5) or at in (1, 4) and sign != "0"):
                    self.assertEqual(shown(read(line)), line)
                else:
                    self.assert_refused(errors.NoText, read, line)

    def test_the_list_is_the_callers_own(self):
        for path, line in WRITTEN:
            read(line).append(("left", 1))
            read(line).clear()
            self.assert_path(read(line), path)

    def test_the_path_is_not_changed(self):
        for path in [path for path, _ in WRITTEN] + long_paths():
            before = copy.deepcopy(path)
            first = shown(path)
            self.assert_path(path, before)
            self.assertEqual(shown(path), first)


class ToldTest(FractionCase):
    """Point 15."""

    def test_ordinary_decimals(self):
        for line, wanted in BOUNDS:
            with self.subTest(line):
                self.assert_pair(told(line), wanted)

    def test_all_short_decimals(self):
        for places in (0, 1, 2):
            for steps in range(1300):
                figures = str(steps).zfill(places + 1)
                whole = figures[:len(figures) - places]
                line = whole + "." * (places > 0) + figures[len(whole):]
                value = Fraction(steps, 10 ** places)
                half = Fraction(1, 2 * 10 ** places)
                low, high = max(value - half, Fraction(0)), value + half
                with self.subTest(line):
                    self.assert_pair(
                        told(line),
                        (low.as_integer_ratio(), high.as_integer_ratio()))

    def test_nought_is_the_least_low_bound(self):
        for places in (1, 2, 7, 58, 59):
            line = "0." + "0" * places
            self.assert_pair(told(line), ((0, 1), (1, 2 * 10 ** places)))

    def test_a_place_more_tells_closer_bounds(self):
        self.assert_pair(told("2"), ((3, 2), (5, 2)))
        self.assert_pair(told("2.0"), ((39, 20), (41, 20)))
        self.assert_pair(told("2.00"), ((399, 200), (401, 200)))

    def test_decimals_of_sixty_figures(self):
        half = Fraction(1, 2)
        for behind in range(60):
            for figures in ("9" * 60, "1" + "0" * 59, "123456" * 10):
                whole = figures[:60 - behind]
                line = whole + "." * (behind > 0) + figures[60 - behind:]
                scale = 10 ** behind
                low, high = int(figures) - half, int(figures) + half
                with self.subTest(line):
                    self.assert_pair(
                        told(line), ((low / scale).as_integer_ratio(),
                                     (high / scale).as_integer_ratio()))

    def test_what_is_no_decimal_is_refused(self):
        for line in NO_DECIMALS:
            self.assert_refused(errors.NoNumber, told, line)

    def test_each_sign_alone(self):
        for sign in SIGNS:
            if sign in string.digits:
                self.assertEqual(told(sign)[1], (2 * int(sign) + 1, 2))
            else:
                self.assert_refused(errors.NoNumber, told, sign)

    def test_each_other_sign_put_into_a_decimal(self):
        for sign in SIGNS:
            if sign in string.digits:
                continue
            for at in range(6):
                line = "12.34"[:at] + sign + "12.34"[at:]
                self.assert_refused(errors.NoNumber, told, line)


class GuessTest(FractionCase):
    """Point 16."""

    def test_ordinary_decimals(self):
        for line, wanted in (
                ("0.33", (1, 3)), ("0.67", (2, 3)), ("3.14", (22, 7)),
                ("3.1416", (355, 113)), ("0.5", (1, 2)), ("2.50", (5, 2)),
                ("0.3", (1, 3)), ("0.1", (1, 7)), ("0.7", (2, 3)),
                ("1.41", (24, 17)), ("0.143", (1, 7)), ("0.9", (6, 7))):
            with self.subTest(line):
                self.assert_fraction(guess(line), wanted)

    def test_both_bounds_are_let_in(self):
        self.assert_pair(told("0.8"), ((3, 4), (17, 20)))
        self.assert_fraction(guess("0.8"), (3, 4))
        self.assert_pair(told("0.2"), ((3, 20), (1, 4)))
        self.assert_fraction(guess("0.2"), (1, 4))

    def test_nought(self):
        for line in ("0", "0.0", "0.00", "0." + "0" * 59):
            self.assert_fraction(guess(line), (0, 1))

    def test_whole_numbers(self):
        for whole in (1, 2, 3, 7, 10, 100, 10 ** 59, MOST):
            self.assert_fraction(guess(str(whole)), (whole, 1))
            if whole < 10 ** 50:
                self.assert_fraction(guess(f"{whole}.000"), (whole, 1))

    def test_all_short_decimals_by_hand(self):
        for steps in range(300):
            line = f"{steps // 100}.{steps % 100:02}"
            low = max(Fraction(2 * steps - 1, 200), Fraction(0))
            high = Fraction(2 * steps + 1, 200)
            lower = 1
            while -(-low * lower // 1) > high * lower:
                lower += 1
            with self.subTest(line):
                self.assert_fraction(
                    guess(line), (int(-(-low * lower // 1)), lower))

    def test_decimals_of_sixty_figures(self):
        self.assert_fraction(guess("0." + "3" * 59), (1, 3))
        self.assert_fraction(guess("0." + "142857" * 9 + "14286"), (1, 7))
        self.assert_fraction(guess("1" * 30 + "." + "5" + "0" * 29),
                             (int("1" * 30) * 2 + 1, 2))
        for frac in large_fractions(100, 18):
            upper, lower = frac[0] % 10 ** 29, frac[1] % 10 ** 29 + 1
            value = Fraction(upper, lower) % 1
            # Half a step of the 59th place is finer than all fractions with
            # lower parts of 29 figures lie apart.
            steps = (2 * value * 10 ** 59 + 1) // 2
            with self.subTest(value=value):
                if steps < 10 ** 59:
                    self.assert_fraction(guess(f"0.{steps:059}"),
                                         value.as_integer_ratio())

    def test_it_lies_within_what_is_told(self):
        for line, _ in BOUNDS:
            with self.subTest(line):
                low, high = told(line)
                self.assertLessEqual(Fraction(*low), Fraction(*guess(line)))
                self.assertLessEqual(Fraction(*guess(line)), Fraction(*high))

    def test_what_is_no_decimal_is_refused(self):
        for line in NO_DECIMALS:
            self.assert_refused(errors.NoNumber, guess, line)


if __name__ == "__main__":
    unittest.main()
