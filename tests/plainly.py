"""What the points say, done in the plainest way, to compare the program with."""

from functools import lru_cache
from itertools import combinations, product

from chambercuts.tables import Table


def all_rows(many):
    """Return all rows that a table of so many keys may have."""
    return [row for size in range(1, many + 1) for row in combinations(range(many), size)]


def all_outs(table):
    return [
        (key, lock) for key in range(table.many) for lock in range(len(table.rows)) if key not in table.rows[lock]
    ]


def all_partings(table, depths):
    return list(product(range(depths), repeat=table.many))


def is_kept_out(table, parting, kind, pair):
    key, lock = pair
    if kind == "plain":
        return all(parting[other] != parting[key] for other in table.rows[lock])
    return all(parting[other] < parting[key] for other in table.rows[lock])


def kept_sets(table, depths, kind):
    """Return the unlike sets of pairs that the partings keep out."""
    return kept_sets_by_rows(table.many, table.rows, depths, kind)


@lru_cache(maxsize=None)
def kept_sets_by_rows(many, rows, depths, kind):
    table = Table(many, rows)
    return {
        frozenset(pair for pair in all_outs(table) if is_kept_out(table, parting, kind, pair))
        for parting in all_partings(table, depths)
    }


def are_good_cuts(table, depths, k, kind, cuts):
    """Tell whether these are plain tuples, cuts of k chambers that keep out all outs."""
    if type(cuts) is not tuple or len(cuts) != table.many:
        return False
    for cut in cuts:
        if type(cut) is not tuple or len(cut) != k:
            return False
        if not all(type(depth) is int and 0 <= depth < depths for depth in cut):
            return False
    partings = [[cut[at] for cut in cuts] for at in range(k)]
    return all(any(is_kept_out(table, parting, kind, pair) for parting in partings) for pair in all_outs(table))


def least_chambers(table, depths, kind):
    """Return the least k for which some k partings keep out all outs, found by all that can be kept out."""
    return least_chambers_by_rows(table.many, table.rows, depths, kind)


@lru_cache(maxsize=None)
def least_chambers_by_rows(many, rows, depths, kind):
    kept = kept_sets_by_rows(many, rows, depths, kind)
    everything = frozenset(all_outs(Table(many, rows)))
    reached = set(kept)
    k = 1
    while everything not in reached:
        reached = {one | other for one in reached for other in kept}
        k += 1
    return k


def is_ascending(value):
    return all(one < other for one, other in zip(value, value[1:]))


def are_lots(table, value):
    """Tell whether a value is an ascending tuple of lots, perhaps ()."""
    pairs = all_outs(table)
    if not isinstance(value, tuple):
        return False
    for lot in value:
        if not isinstance(lot, tuple) or len(lot) == 0:
            return False
        for pair in lot:
            if not isinstance(pair, tuple) or len(pair) != 2 or any(type(number) is not int for number in pair):
                return False
            if pair not in pairs:
                return False
        if not is_ascending(lot):
            return False
    return is_ascending(value)


def are_walls(table, depths, k, kind, value):
    """Tell whether a value is walls, for depths, k and kind that are let."""
    if not isinstance(value, tuple) or len(value) != k + 1:
        return False
    if not all(are_lots(table, lots) for lots in value) or len(value[0]) == 0:
        return False
    kept = kept_sets(table, depths, kind)
    for t in range(k):
        below = [set(lot) for lot in value[t + 1]]
        for lot in value[t]:
            for out in kept:
                rest = set(lot) - out
                if not any(other <= rest for other in below):
                    return False
    return True


def all_cuts(k, depths):
    return list(product(range(depths), repeat=k))


def opens(system, cut, lock):
    """Tell whether some key of the lock's row has the cut's depth, in each chamber."""
    row = system.table.rows[lock]
    return all(any(system.cuts[key][at] == cut[at] for key in row) for at in range(len(cut)))


def plainly_opened(system, cut):
    return tuple(lock for lock in range(len(system.table.rows)) if opens(system, cut, lock))


def cuts_of(system):
    """Return all cuts of the chambers and depths of a system, ascending."""
    return all_cuts(len(system.cuts[0]), system.depths)


def bunches(system):
    return sorted(all_rows(system.table.many))


def is_filed(system, key, cut):
    return all(deeper >= depth for deeper, depth in zip(cut, system.cuts[key]))


def first_filed(system, key, lock):
    """Return the first cut filed from the key's that opens the lock, or None."""
    for cut in cuts_of(system):
        if is_filed(system, key, cut) and opens(system, cut, lock):
            return cut
    return None


def is_made(system, keys, cut):
    return all(any(system.cuts[key][at] == cut[at] for key in keys) for at in range(len(cut)))


def first_made(system, keys, lock):
    """Return the first cut that can be made of the keys and opens the lock, or None."""
    for cut in cuts_of(system):
        if is_made(system, keys, cut) and opens(system, cut, lock):
            return cut
    return None


def all_makers(system, lock):
    """Return the ascending list of the least bunches of keys that do not open a lock, of which a cut that does can."""
    able = [
        set(keys) for keys in bunches(system)
        if not set(keys) & set(system.table.rows[lock]) and first_made(system, keys, lock) is not None
    ]
    return sorted(tuple(sorted(keys)) for keys in able if not any(other < keys for other in able))


def do_fit(rows, cuts):
    """Tell whether cuts fit rows, of however many keys and locks."""
    for row in rows:
        for key in range(len(cuts)):
            if key not in row and all(any(cuts[key][at] == cuts[o][at] for o in row) for at in range(len(cuts[0]))):
                return False
    return True


def all_key_cuts(system, locks):
    key = system.table.many
    rows = [row + (key,) if lock in locks else row for lock, row in enumerate(system.table.rows)]
    return [cut for cut in cuts_of(system) if do_fit(rows, system.cuts + (cut,))]


def all_locks(system):
    """Return all ascending tuples of locks of a system."""
    many = len(system.table.rows)
    return [locks for size in range(many + 1) for locks in combinations(range(many), size)]
