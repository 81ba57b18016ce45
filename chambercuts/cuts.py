"""Cuts of keys, the stacks that locks must have for them, and which cuts fit a table."""

from chambercuts.checks import is_within
from chambercuts.depths import is_chambers, is_depths
from chambercuts.errors import InvalidCuts, InvalidNumber
from chambercuts.tables import outs


def is_cut(value, k, depths):
    """Tell whether a value is a cut of k chambers, of depths below this number."""
    if not isinstance(value, tuple) or len(value) != k:
        return False
    return all([is_within(depth, 0, depths - 1) for depth in value])


def are_cuts(table, depths, value):
    """Tell whether a value is cuts for the table, of depths below this number."""
    if not isinstance(value, tuple) or len(value) != table.many:
        return False
    first = value[0]
    if not isinstance(first, tuple) or not is_chambers(len(first)):
        return False
    return all([is_cut(cut, len(first), depths) for cut in value])


def least_stacks(cuts, keys):
    """Return for each chamber the ascending depths that the cuts of these keys have there."""
    return tuple([_least_stack(cuts, keys, chamber) for chamber in range(len(cuts[0]))])


def falls(cut, stacks):
    """Tell whether each depth of the cut is in the stack of its chamber."""
    return all([depth in stack for depth, stack in zip(cut, stacks)])


def fits(table, depths, cuts):
    """Tell whether no key falls into the least stacks of a row that it is not in."""
    if not is_depths(depths):
        raise InvalidNumber(depths)
    if not are_cuts(table, depths, cuts):
        raise InvalidCuts(cuts)
    stacks = [least_stacks(cuts, row) for row in table.rows]
    return not any([falls(cuts[key], stacks[lock]) for key, lock in outs(table)])


def _least_stack(cuts, keys, chamber):
    """Return the ascending depths that the cuts of these keys have in one chamber."""
    return tuple(sorted({cuts[key][chamber] for key in keys}))
