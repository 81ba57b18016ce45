"""Systems, which are tables that are cut, what a cut opens in them, and their ghosts."""

from chambercuts.cuts import falls, fits, is_cut, least_stacks
from chambercuts.depths import depth_tuples
from chambercuts.errors import InvalidCut, InvalidCuts, InvalidTable
from chambercuts.tables import Table


class System:
    """A table and cuts that fit it; each lock has the least stacks of the keys of its row."""

    def __init__(self, table, depths, cuts):
        if not isinstance(table, Table):
            raise InvalidTable(table)
        # What is no number of depths, or no cuts at all, is refused by fits.
        if not fits(table, depths, cuts):
            raise InvalidCuts(cuts)
        self.table = table
        self.depths = depths
        # Tuples of a class of their own are let, but not kept.
        self.cuts = tuple([tuple(cut) for cut in cuts])

    def __eq__(self, other):
        if not isinstance(other, System):
            return False
        return self.table == other.table and self.depths == other.depths and self.cuts == other.cuts


def opened(system, cut):
    """Return the ascending locks that a cut opens."""
    if not is_cut(cut, chambers(system), system.depths):
        raise InvalidCut(cut)
    return _locks_for(cut, lock_stacks(system))


def ghosts(system):
    """Return the ascending cuts that no key has and that open some lock, each with what it opens."""
    stacks = lock_stacks(system)
    found = []
    for cut in depth_tuples(chambers(system), system.depths):
        locks = _locks_for(cut, stacks)
        if len(locks) > 0 and cut not in system.cuts:
            found.append((cut, locks))
    return tuple(found)


def chambers(system):
    """Return the number of chambers of a system."""
    return len(system.cuts[0])


def lock_stacks(system):
    """Return for each lock of a system its stacks."""
    return [stacks_of(system, lock) for lock in range(len(system.table.rows))]


def stacks_of(system, lock):
    """Return the stacks of one lock of a system."""
    return least_stacks(system.cuts, system.table.rows[lock])


def _locks_for(cut, stacks):
    """Return the ascending locks into whose stacks a cut falls."""
    return tuple([lock for lock in range(len(stacks)) if falls(cut, stacks[lock])])
