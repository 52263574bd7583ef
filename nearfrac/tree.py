"""The tree of all fractions but nought, and the paths in it."""

from nearfrac.errors import NoPath

LEFT = "left"
RIGHT = "right"


def sides(frac):
    """Give the two neighbours whose child a fraction is, the lesser one first."""
    return sides_at(path_of(frac))


def path_of(frac):
    """Give the path from the top to a fraction, as a list of runs."""
    upper, lower = frac
    if upper == 0:
        raise NoPath("nought does not stand in the tree")
    path = []
    # A whole run is taken at once: its length may have sixty figures.
    while upper != lower:
        if upper > lower:
            often = (upper - 1) // lower
            upper = upper - often * lower
            path.append((RIGHT, often))
        else:
            often = (lower - 1) // upper
            lower = lower - often * upper
            path.append((LEFT, often))
    return path


def at_path(path):
    """Give the fraction to which a path leads."""
    if not is_path(path):
        raise NoPath("a run has a wrong way or number, or repeats a way")
    left, right = sides_at(path)
    return added(left, right, 1)


def is_path(path):
    """Tell whether a list of runs is a path."""
    way_ahead = None
    for way, often in path:
        if way not in (LEFT, RIGHT) or often < 1 or way == way_ahead:
            return False
        way_ahead = way
    return True


def sides_at(path):
    """Give the neighbours of the fraction to which a path leads."""
    left, right = (0, 1), (1, 0)
    for way, often in path:
        if way == LEFT:
            right = added(right, left, often)
        else:
            left = added(left, right, often)
    return left, right


def added(one, other, often):
    """Add the parts of the other pair to those of the one, so often."""
    return one[0] + often * other[0], one[1] + often * other[1]
