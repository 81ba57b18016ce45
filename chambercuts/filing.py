"""Keys that are filed deeper, and which locks they open then."""

from chambercuts.errors import InvalidPair, Undefined
from chambercuts.systems import stacks_of
from chambercuts.tables import is_out, outs


def filed(system, key, lock):
    """Return the first cut filed from the key's that opens the lock."""
    if not is_out(system.table, key, lock):
        raise InvalidPair((key, lock))
    reached = _reached(system, key, lock)
    if not all([len(depths) > 0 for depths in reached]):
        raise Undefined("filed")
    return tuple([depths[0] for depths in reached])


def threats(system):
    """Return the ascending pairs of outs for which there is such a cut."""
    return tuple([(key, lock) for key, lock in outs(system.table) if len(bars(system, key, lock)) == 0])


def bars(system, key, lock):
    """Return the ascending chambers that bar a pair of outs."""
    return [chamber for chamber, depths in enumerate(_reached(system, key, lock)) if len(depths) == 0]


def _reached(system, key, lock):
    """Return for each chamber the ascending depths of the lock's stack that are at least the key's there."""
    stacks = stacks_of(system, lock)
    return [[depth for depth in stack if depth >= own] for own, stack in zip(system.cuts[key], stacks)]
