"""Walls, from which it can be seen that a table cannot be cut in so many chambers."""

from itertools import pairwise

from chambercuts.checks import is_integer
from chambercuts.covers import Search, has_apart, has_within, mask_of, narrowest, places
from chambercuts.depths import is_chambers, is_depths, is_kind
from chambercuts.errors import Undefined
from chambercuts.partings import all_outs, best_partings, check_chambers
from chambercuts.tables import outs


def walls(table, depths, k, kind):
    """Return some walls for k chambers, where no cuts of k chambers keep out all outs in this kind."""
    check_chambers(depths, k, kind)
    search = Search(list(best_partings(table, depths, kind)))
    if search.cover(all_outs(table), k) is not None:
        raise Undefined("walls")
    levels = [[search.core(all_outs(table), k)]]
    for left in reversed(range(k)):
        levels.append(_next_level(search, levels[-1], left))
    pairs = outs(table)
    return tuple([_lots(pairs, level) for level in levels])


def walls_hold(table, depths, k, kind, value):
    """Tell whether a value is walls for k chambers; the four last arguments may be any values."""
    if not is_depths(depths) or not is_chambers(k) or not is_kind(kind):
        return False
    if not isinstance(value, tuple) or len(value) != k + 1:
        return False
    at = {pair: place for place, pair in enumerate(outs(table))}
    levels = [_masks(at, lots) for lots in value]
    if any([level is None for level in levels]) or not levels[0]:
        return False
    partings = list(best_partings(table, depths, kind))
    # A lot within which another one lies can do no more than that one, and needs no more.
    levels = [narrowest(level) for level in levels]
    return all([_leads_on(partings, upper, lower) for upper, lower in pairwise(levels)])


def _next_level(search, level, left):
    """Return lots that so many partings cannot keep out, enough of them for all lots of a level.

    No lot of the level can be kept out by one parting more than so many.
    """
    found = []
    for lot in level:
        for mask in search.masks:
            rest = lot & ~mask
            if not has_within(found, rest):
                found.append(search.core(rest, left))
    return found


def _leads_on(partings, upper, lower):
    """Tell whether each parting leaves of each upper lot enough for some lower lot."""
    for lot in upper:
        within = [other for other in lower if other | lot == lot]
        for mask in partings:
            if not has_apart(within, mask):
                return False
    return True


def _lots(pairs, level):
    """Return the ascending lots that the masks of a level stand for."""
    return tuple(sorted([tuple([pairs[place] for place in places(mask)]) for mask in level]))


def _masks(at, value):
    """Return the masks of an ascending tuple of lots, perhaps (), or None if a value is none."""
    if not isinstance(value, tuple):
        return None
    masks = []
    # Places ascend as the pairs do, so lots of places are in the order of the lots. The first lot
    # is above (), so none of them is ().
    last = ()
    for lot in value:
        some = _places_of_lot(at, lot)
        if some is None or not last < some:
            return None
        masks.append(mask_of(some))
        last = some
    return masks


def _places_of_lot(at, value):
    """Return the places of an ascending tuple of pairs of outs, perhaps (), or None if a value is none."""
    if not isinstance(value, tuple):
        return None
    some = []
    last = -1
    for pair in value:
        place = _place_of_pair(at, pair)
        if place <= last:
            return None
        some.append(place)
        last = place
    return tuple(some)


def _place_of_pair(at, value):
    """Return the place of a pair of outs, or -1 if a value is none."""
    if not isinstance(value, tuple) or len(value) != 2:
        return -1
    # To Python a bool is equal to a number, and a list cannot be looked up at all.
    if not is_integer(value[0]) or not is_integer(value[1]):
        return -1
    return at.get((value[0], value[1]), -1)
