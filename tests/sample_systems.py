"""Systems of many kinds, for the tests of what is asked of systems."""

from itertools import product

from chambercuts.cuts import fits
from chambercuts.partings import cuts_for
from chambercuts.systems import System
from chambercuts.tables import Table
from tests.plainly import all_cuts, all_rows

ONE = Table(1, ((0,),))
TWO = Table(3, ((0, 1), (0, 2)))
TWO_CUTS = ((0, 0), (0, 1), (1, 0))
APART = Table(5, ((0,), (1,), (2,), (3,), (4,)))
APART_CUTS = ((0, 0, 0), (0, 1, 1), (1, 0, 1), (1, 1, 0), (1, 1, 1))
FULL = Table(5, ((0, 1, 2, 3, 4),) * 5)


def some_systems():
    """Return systems of 1 to 5 keys, 1 to 5 locks and chambers, and of 2 to 4 depths."""
    found = []
    for many in range(1, 6):
        rows = all_rows(many)
        for locks in range(1, 6):
            for start in range(0, len(rows), 3):
                table = Table(many, tuple(rows[(start + 5 * at) % len(rows)] for at in range(locks)))
                k = 5 if start % 2 else many
                depths = 2 + (start + locks) % 3
                if depths ** k <= 256:
                    found.append(System(table, depths, cuts_for(table, depths, k, "plain" if start % 4 else "deep")))
    return found + [System(TWO, 2, TWO_CUTS), System(APART, 2, APART_CUTS), System(ONE, 4, ((3, 0, 1, 2, 3),))]


def small_systems():
    """Return all systems of some small tables with two chambers of two depths and one of three."""
    found = []
    for rows in product(all_rows(3), repeat=2):
        table = Table(3, rows)
        for k, depths in ((2, 2), (1, 3)):
            for cuts in product(all_cuts(k, depths), repeat=3):
                if fits(table, depths, cuts):
                    found.append(System(table, depths, cuts))
    return found


def odd_systems():
    """Return systems whose cuts are taken here and there from all cuts of some chambers that fit a table."""
    found = []
    for many, k, depths in ((2, 1, 4), (3, 2, 3), (4, 3, 2), (5, 2, 4), (5, 3, 3), (4, 4, 2), (5, 5, 2)):
        every = all_cuts(k, depths)
        rows = all_rows(many)
        for start in range(120):
            table = Table(many, tuple(rows[(start * 7 + 4 * at) % len(rows)] for at in range(1 + start % 5)))
            cuts = tuple(every[(start * 11 + key * (5 + start % 13) + key * key) % len(every)] for key in range(many))
            if fits(table, depths, cuts):
                found.append(System(table, depths, cuts))
    return found


def large_systems():
    """Return systems of five chambers of four depths, of one key and lock up to five of both."""
    found = [System(ONE, 4, ((3, 0, 1, 2, 3),)), System(FULL, 4, ((0, 1, 2, 3, 0),) * 5)]
    for table in (APART, Table(5, ((0, 1), (0, 2), (0, 3), (0, 4), (0,))), Table(4, ((0, 1, 2, 3),))):
        found.append(System(table, 4, cuts_for(table, 4, 5, "plain")))
    spread = tuple((depth,) * 5 for depth in range(4))
    return found + [System(Table(4, ((0, 1, 2, 3),)), 4, spread)]


def deep_systems():
    """Return systems with deep cuts of as many chambers as there are keys."""
    found = []
    for system in some_systems():
        table = system.table
        for depths in (2, 4):
            if depths ** table.many <= 256:
                found.append(System(table, depths, cuts_for(table, depths, table.many, "deep")))
    return found
