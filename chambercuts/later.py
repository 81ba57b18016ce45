"""Locks and keys that come later, while all that there is stays as it is."""

from chambercuts.cuts import falls, is_cut, least_stacks
from chambercuts.depths import depth_tuples
from chambercuts.errors import InvalidCut, InvalidKeys, InvalidLocks, Undefined
from chambercuts.systems import System, chambers, lock_stacks
from chambercuts.tables import MOST_KEYS, MOST_LOCKS, Table, are_locks, is_bunch


def lock_fits(system, keys):
    """Tell whether no other key falls into the least stacks of a bunch of keys."""
    if not is_bunch(system.table, keys):
        raise InvalidKeys(keys)
    return len(intruders(system, keys)) == 0


def with_lock(system, keys):
    """Return the system that has a lock for a bunch of keys behind the others."""
    if not lock_fits(system, keys) or len(system.table.rows) == MOST_LOCKS:
        raise Undefined("lock")
    table = Table(system.table.many, system.table.rows + (keys,))
    return System(table, system.depths, system.cuts)


def key_cuts(system, locks):
    """Return the ascending cuts with which one key more fits, in the rows of just these locks."""
    if not are_locks(system.table, locks):
        raise InvalidLocks(locks)
    stacks = lock_stacks(system)
    cuts = depth_tuples(chambers(system), system.depths)
    return tuple([cut for cut in cuts if flaw(system, stacks, locks, cut) is None])


def with_key(system, locks, cut):
    """Return the system that has one key more, behind the others, in the rows of just these locks."""
    if not are_locks(system.table, locks):
        raise InvalidLocks(locks)
    if not is_cut(cut, chambers(system), system.depths):
        raise InvalidCut(cut)
    key = system.table.many
    if flaw(system, lock_stacks(system), locks, cut) is not None or key == MOST_KEYS:
        raise Undefined("key")
    rows = [row + (key,) if lock in locks else row for lock, row in enumerate(system.table.rows)]
    return System(Table(key + 1, tuple(rows)), system.depths, system.cuts + (cut,))


def intruders(system, keys):
    """Return the ascending keys that are not in a bunch, but fall into its least stacks."""
    stacks = least_stacks(system.cuts, keys)
    return [key for key in range(system.table.many) if key not in keys and falls(system.cuts[key], stacks)]


def flaw(system, stacks, locks, cut):
    """Return why no key more of this cut fits in the rows of just these locks, or None if one does.

    It is ("opens", lock) for another lock that the cut opens, or ("lets", key, lock) for one of these
    locks that the key would open, though it is not in its row. The stacks are those of all locks.
    """
    for lock, row in enumerate(system.table.rows):
        if lock not in locks:
            if falls(cut, stacks[lock]):
                return ("opens", lock)
        else:
            for key in range(system.table.many):
                if key not in row and falls_beside(system.cuts[key], stacks[lock], cut):
                    return ("lets", key, lock)
    return None


def falls_beside(cut, stacks, other):
    """Tell whether a cut falls into stacks to which the depths of another cut are added."""
    return all([depth in stack or depth == added for depth, stack, added in zip(cut, stacks, other)])
