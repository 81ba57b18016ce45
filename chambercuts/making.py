"""Cuts that are made of the depths of some keys, and which locks they open."""

from itertools import combinations

from chambercuts.cuts import least_stacks
from chambercuts.errors import InvalidKeys, InvalidNumber, Undefined
from chambercuts.systems import stacks_of
from chambercuts.tables import is_bunch, is_lock


def made_of(system, keys, lock):
    """Return the first cut that can be made of a bunch of keys and opens the lock."""
    if not is_bunch(system.table, keys):
        raise InvalidKeys(keys)
    if not is_lock(system.table, lock):
        raise InvalidNumber(lock)
    shared = _shared(system, keys, lock)
    if not all([len(depths) > 0 for depths in shared]):
        raise Undefined("made")
    return tuple([depths[0] for depths in shared])


def makers(system, lock):
    """Return the ascending least bunches of keys that do not open the lock, of which a cut that does can be made."""
    if not is_lock(system.table, lock):
        raise InvalidNumber(lock)
    others = [key for key in range(system.table.many) if key not in system.table.rows[lock]]
    found = []
    # Smaller bunches come first, so that each one that lies within another one is found ahead of it.
    for size in range(1, len(others) + 1):
        for keys in combinations(others, size):
            if not _has_within(found, keys) and len(gaps(system, keys, lock)) == 0:
                found.append(keys)
    return tuple(sorted(found))


def gaps(system, keys, lock):
    """Return the ascending chambers in which no key of a bunch has a depth of the lock's stack."""
    return [chamber for chamber, depths in enumerate(_shared(system, keys, lock)) if len(depths) == 0]


def _shared(system, keys, lock):
    """Return for each chamber the ascending depths of the lock's stack that one of the keys has there."""
    made = least_stacks(system.cuts, keys)
    return [[depth for depth in stack if depth in theirs] for theirs, stack in zip(made, stacks_of(system, lock))]


def _has_within(bunches, keys):
    """Tell whether all keys of one of some bunches are among these keys."""
    for bunch in bunches:
        if all([key in keys for key in bunch]):
            return True
    return False
