"""Partings of keys by depths, and the fewest chambers that a table can be cut in."""

from chambercuts.covers import Search, mask_of, widest
from chambercuts.depths import PLAIN, depth_tuples, is_chambers, is_depths, is_kind
from chambercuts.errors import InvalidKind, InvalidNumber, Undefined
from chambercuts.tables import outs


def kept_out(table, parting, kind):
    """Return the ascending pairs of outs that a parting keeps out in this kind."""
    if not is_kind(kind):
        raise InvalidKind(kind)
    rows = [[parting[key] for key in row] for row in table.rows]
    return tuple([(key, lock) for key, lock in outs(table) if _is_kept_out(parting[key], rows[lock], kind)])


def cuts_for(table, depths, k, kind):
    """Return some cuts of k chambers that keep out all outs in this kind."""
    check_chambers(depths, k, kind)
    best = best_partings(table, depths, kind)
    chosen = Search(list(best)).cover(all_outs(table), k)
    if chosen is None:
        raise Undefined("cuts")
    partings = [best[mask] for mask in chosen]
    # Fewer chambers may do, but it is k that are asked for.
    partings = partings + [(0,) * table.many] * (k - len(partings))
    return tuple(zip(*partings))


def fewest(table, depths, kind):
    """Return the least number of chambers in which cuts can keep out all outs in this kind."""
    if not is_depths(depths):
        raise InvalidNumber(depths)
    if not is_kind(kind):
        raise InvalidKind(kind)
    search = Search(list(best_partings(table, depths, kind)))
    k = 1
    # It ends: a chamber for each key, in which this one alone is cut deeper, keeps out all outs.
    while search.cover(all_outs(table), k) is None:
        k = k + 1
    return k


def check_chambers(depths, k, kind):
    """Refuse what is no number of depths, no number of chambers or no kind, in this order."""
    if not is_depths(depths):
        raise InvalidNumber(depths)
    if not is_chambers(k):
        raise InvalidNumber(k)
    if not is_kind(kind):
        raise InvalidKind(kind)


def all_outs(table):
    """Return the mask of all outs; in such masks each of them has the bit at its place among the outs."""
    return (1 << len(outs(table))) - 1


def best_partings(table, depths, kind):
    """Return, by the masks of what they keep out, partings of which one keeps out what any parting does."""
    at = {pair: place for place, pair in enumerate(outs(table))}
    found = {}
    for parting in depth_tuples(table.many, depths):
        # Where two keys share a depth and another depth is free, parting them keeps out no less.
        if len(set(parting)) == min(table.many, depths):
            mask = mask_of([at[pair] for pair in kept_out(table, parting, kind)])
            found.setdefault(mask, parting)
    return {mask: found[mask] for mask in widest(list(found))}


def _is_kept_out(depth, others, kind):
    """Tell whether a key of this depth is kept out by a lock whose keys have the other depths."""
    if kind == PLAIN:
        return depth not in others
    return depth > max(others)
