"""One master key over locks of their own: how many of them there can be, and cuts for them."""

from math import comb, gcd

from chambercuts.checks import is_within
from chambercuts.cuts import is_cut
from chambercuts.depths import depth_tuples, is_depths
from chambercuts.errors import InvalidCuts, InvalidNumber
from chambercuts.tables import Table

# The most chambers of master cuts, and the most locks of a master's table.
MOST = 4


def are_master_cuts(k, d, value):
    """Tell whether a value is master cuts of k chambers of d depths."""
    if not isinstance(value, tuple) or len(value) == 0:
        return False
    if not all([is_cut(cut, k, d) for cut in value]) or _size(value[0]) > 0:
        return False
    others = value[1:]
    # It ends soon, since among few cuts already there must be two that are not apart.
    for place, cut in enumerate(others):
        if not all([_are_apart(cut, other) for other in others[:place]]):
            return False
    return True


def greatest(k, d):
    """Return the greatest number of cuts that are not 0 in equally many of k chambers of d depths."""
    _check(k, d)
    return max(_layers(k, d))


def layer(k, d, many):
    """Return the master's cut and the first so many of the cuts of the layer that has the most."""
    most = greatest(k, d)
    if not is_within(many, 0, most):
        raise InvalidNumber(many)
    chosen = _layers(k, d).index(most)
    cuts = [cut for cut in depth_tuples(k, d) if _size(cut) == chosen]
    return ((0,) * k,) + tuple(cuts[:many])


def share(k, d, value):
    """Return the ratio that tells how much of their layers master cuts take up, all layers together."""
    _check(k, d)
    if not are_master_cuts(k, d, value):
        raise InvalidCuts(value)
    layers = _layers(k, d)
    over, under = 0, 1
    for cut in value[1:]:
        many = layers[_size(cut)]
        over, under = over * many + under, under * many
        common = gcd(over, under)
        over, under = over // common, under // common
    return (over, under)


def master_table(n):
    """Return the table of a master, which opens all of n locks, and of a key for each of them."""
    if not is_within(n, 1, MOST):
        raise InvalidNumber(n)
    return Table(n + 1, tuple([(0, lock + 1) for lock in range(n)]))


def _check(k, d):
    """Refuse what is no number of chambers or no number of depths of master cuts, in this order."""
    if not is_within(k, 1, MOST):
        raise InvalidNumber(k)
    if not is_depths(d):
        raise InvalidNumber(d)


def _layers(k, d):
    """Return for each number r up to 4 how many cuts of k chambers are not 0 in just r of them."""
    # For an r above k this is 0.
    return [comb(k, r) * (d - 1) ** r for r in range(5)]


def _size(cut):
    """Return the number of chambers in which a cut is not 0."""
    return len([depth for depth in cut if depth != 0])


def _are_apart(one, other):
    """Tell whether each of two cuts is not 0 and differs from the other one in some chamber."""
    return _stands_out(one, other) and _stands_out(other, one)


def _stands_out(cut, other):
    """Tell whether a cut is not 0 and differs from another one in some chamber."""
    return any([depth != 0 and depth != there for depth, there in zip(cut, other)])
