"""The simplest fraction between two bounds, and the nearest ones to a target."""

from nearfrac.errors import NoBounds, NoRoom, Unsure
from nearfrac.fracs import apart, gap, is_whole, less
from nearfrac.tree import added, at_path, path_of


def simplest(low, high):
    """Give the fraction with the least lower part from low to high."""
    check_bounds(low, high)
    # Nought does not stand in the tree, but no other fraction is simpler.
    if low[0] == 0:
        return low
    # All that lies within the bounds stands at or below the place where
    # their paths part, and no step down makes the upper or lower part less.
    return at_path(shared_path(path_of(low), path_of(high)))


def around(target, most):
    """Give the nearest fractions below and above a target, or it twice."""
    check_room(most)
    if target[1] <= most:
        return target, target
    # The target is not whole here, as its lower part is above 1.
    whole = target[0] // target[1]
    left, right = (whole, 1), (whole + 1, 1)
    while left[1] + right[1] <= most:
        left = moved(left, right, target, most)
        right = moved(right, left, target, most)
    return left, right


def nearest(target, most):
    """Give the fraction that lies least far apart from a target."""
    low, high = around(target, most)
    below, above = apart(low, target), apart(high, target)
    if less(below, above):
        return low
    if less(above, below):
        return high
    if high[1] < low[1]:
        return high
    return low


def records(target, most):
    """Give the fractions that lie nearer than all with lesser lower parts."""
    check_room(most)
    found = []
    # Nothing lies nearer to the target than the target itself.
    for lower in range(1, min(most, target[1]) + 1):
        frac = nearest(target, lower)
        if frac[1] == lower:
            found.append(frac)
    return found


def sure(low, high, most):
    """Give the fraction that is nearest to each target from low to high."""
    check_room(most)
    check_bounds(low, high)
    frac = nearest(low, most)
    # As a target rises, the fraction nearest to it never falls: where it is
    # the same at both bounds, it is so at all that lies between them.
    if nearest(high, most) != frac:
        raise Unsure("no one fraction is nearest to all between the bounds")
    return frac


def check_room(most):
    """Refuse a greatest lower part that lets in no fraction."""
    if not is_whole(most) or most < 1:
        raise NoRoom("the greatest lower part must be a whole number from 1 on")


def check_bounds(low, high):
    """Refuse a low bound that is greater than the high one."""
    if less(high, low):
        raise NoBounds("the low bound must not be greater than the high one")


def shared_path(one, other):
    """Give the path that two paths have in common from the top on."""
    shared = []
    for run, other_run in zip(one, other):
        if run[0] == other_run[0]:
            shared.append((run[0], min(run[1], other_run[1])))
        if run != other_run:
            break
    return shared


def moved(one, other, target, most):
    """Move one neighbour of a target nearer to it, as far as there is room.

    It moves by the other neighbour, not beyond the target, and keeps its lower
    part at most the given one, so that it never gets to the target itself.
    """
    room = (most - one[1]) // other[1]
    # All these steps are taken at once: there may be sixty figures of them.
    steps = gap(one, target) // gap(other, target)
    return added(one, other, min(room, steps))
