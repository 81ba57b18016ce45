"""Numbers of depths and of chambers, tuples of depths, and the kinds of keeping out."""

from chambercuts.checks import is_within

LEAST_DEPTHS = 2
MOST_DEPTHS = 4
MOST_CHAMBERS = 5
PLAIN = "plain"
DEEP = "deep"


def is_depths(value):
    """Tell whether a value is a number of depths."""
    return is_within(value, LEAST_DEPTHS, MOST_DEPTHS)


def is_chambers(value):
    """Tell whether a value is a number of chambers."""
    return is_within(value, 1, MOST_CHAMBERS)


def is_kind(value):
    """Tell whether a value is one of the two words for a kind."""
    return isinstance(value, str) and value in (PLAIN, DEEP)


def depth_tuples(length, depths):
    """Return all tuples of so many depths below a number, ascending."""
    found = [()]
    for _ in range(length):
        found = [shorter + (depth,) for shorter in found for depth in range(depths)]
    return found
