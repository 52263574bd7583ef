"""Paths and decimals as texts."""

from nearfrac.errors import NoNumber, NoText
from nearfrac.fracs import lowest
from nearfrac.near import simplest
from nearfrac.tree import is_path

TOP = "top"
SIGNS = {"left": "L", "right": "R"}
WAYS = {"L": "left", "R": "right"}


def shown(path):
    """Write a path."""
    if len(path) == 0:
        return TOP
    return " ".join([SIGNS[way] + str(often) for way, often in path])


def read(line):
    """Give the path that a text writes."""
    if line == TOP:
        return []
    path = [read_run(word) for word in line.split(" ")]
    if not is_path(path):
        raise NoText("two runs of the same way stand one behind the other")
    return path


def told(line):
    """Give the two bounds that a decimal tells."""
    if not is_decimal(line):
        raise NoNumber("the text is no decimal")
    whole, _, behind = line.partition(".")
    steps = int(whole + behind)
    # How many half steps of the last place there are in one.
    halves = 2 * int("1" + "0" * len(behind))
    low = lowest(max(2 * steps - 1, 0), halves)
    high = lowest(2 * steps + 1, halves)
    return low, high


def guess(line):
    """Give the simplest fraction within the bounds that a decimal tells."""
    low, high = told(line)
    return simplest(low, high)


def read_run(word):
    """Give the run that a word of a text writes."""
    sign, figures = word[:1], word[1:]
    if sign not in WAYS:
        raise NoText("a run must begin with L or R")
    if not is_figures(figures) or figures[0] == "0":
        raise NoText("a run must tell how often, without a nought ahead")
    return WAYS[sign], int(figures)


def is_decimal(line):
    """Tell whether a text is a decimal."""
    whole, point, behind = line.partition(".")
    if not is_figures(whole):
        return False
    if whole[0] == "0" and whole != "0":
        return False
    return point == "" or is_figures(behind)


def is_figures(text):
    """Tell whether a text is one or more figures 0 to 9, and nothing else."""
    # Other scripts have figures, too, that isdigit alone lets in.
    return text.isascii() and text.isdigit()
