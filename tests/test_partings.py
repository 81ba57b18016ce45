"""Tests of partings and of cuts in few chambers: [7], [8], and promises (2) and (3)."""

import unittest
from itertools import product

from chambercuts.cuts import are_cuts, fits
from chambercuts.errors import InvalidKind, InvalidNumber, Undefined
from chambercuts.partings import cuts_for, fewest, kept_out
from chambercuts.tables import Table, outs
from chambercuts.walls import walls, walls_hold
from tests.plainly import all_partings, all_rows, are_good_cuts, is_kept_out, least_chambers
from tests.samples import NEITHER, Row, is_plain, unchanged

KINDS = ("plain", "deep")
OTHER_KINDS = tuple(value for value in NEITHER if value != "plain") + (
    0, 1, "Plain", "DEEP", "deep ", " plain", "plaindeep", "p", "flat", ("plain",), ["deep"], ("plain", "deep"),
    "plai", "plain\n",
)
OTHER_NUMBERS = NEITHER + (0, 6, 7, -1, -2, -5, 10 ** 12 - 1, -(10 ** 12 - 1))
TRIANGLE = Table(3, ((0, 1), (0, 2), (1, 2)))
APART = Table(5, ((0,), (1,), (2,), (3,), (4,)))
FOUR = Table(5, ((0,), (1, 2), (1, 3), (0, 1, 4), (0, 2, 3, 4)))
HARD = Table(5, ((0,), (1,), (0, 2), (2, 3), (3, 4)))

# The table and the fewest chambers: plain ones of 2, 3 and 4 depths, then deep ones of these.
FEWEST = (
    (Table(1, ((0,),)), (1, 1, 1), (1, 1, 1)),
    (Table(1, ((0,),) * 5), (1, 1, 1), (1, 1, 1)),
    (Table(5, ((0, 1, 2, 3, 4),)), (1, 1, 1), (1, 1, 1)),
    (Table(5, ((0, 1, 2, 3, 4),) * 5), (1, 1, 1), (1, 1, 1)),
    (Table(2, ((0,),)), (1, 1, 1), (1, 1, 1)),
    (Table(2, ((0,), (1,))), (1, 1, 1), (2, 2, 2)),
    (Table(3, ((0,), (1,), (2,))), (2, 1, 1), (3, 2, 2)),
    (Table(3, ((0, 1), (0, 2))), (2, 1, 1), (2, 2, 2)),
    (TRIANGLE, (3, 1, 1), (3, 3, 3)),
    (Table(5, ((0,),)), (1, 1, 1), (1, 1, 1)),
    (Table(5, ((0,),) * 5), (1, 1, 1), (1, 1, 1)),
    (Table(4, ((0, 1, 2), (0, 1, 3), (0, 2, 3), (1, 2, 3))), (4, 2, 1), (4, 4, 4)),
    (APART, (3, 2, 2), (4, 3, 3)),
)


def small_tables():
    """Return all tables of at most 3 keys and 2 locks, and one of all 3 pairs of keys."""
    tables = [
        Table(many, rows) for many in (1, 2, 3) for locks in (1, 2) for rows in product(all_rows(many), repeat=locks)
    ]
    return tables + [TRIANGLE, Table(3, ((0,), (1,), (2,)))]


def large_tables():
    """Return some tables of 4 and 5 keys, of 1 to 5 locks."""
    tables = [APART, FOUR, HARD]
    for many in (4, 5):
        rows = all_rows(many)
        for locks in range(1, 6):
            for start in range(0, len(rows), 4):
                tables.append(Table(many, tuple(rows[(start + 7 * at) % len(rows)] for at in range(locks))))
    return tables


class KeptOut(unittest.TestCase):

    def test_by_hand(self):
        for table, parting, plain, deep in (
            (Table(1, ((0,),)), (0,), (), ()),
            (Table(2, ((0,),)), (0, 0), (), ()),
            (Table(2, ((0,),)), (0, 1), ((1, 0),), ((1, 0),)),
            (Table(2, ((0,),)), (1, 0), ((1, 0),), ()),
            (Table(2, ((0,), (1,))), (0, 3), ((0, 1), (1, 0)), ((1, 0),)),
            (Table(2, ((0,), (1,))), (3, 0), ((0, 1), (1, 0)), ((0, 1),)),
            (TRIANGLE, (0, 1, 2), ((0, 2), (1, 1), (2, 0)), ((2, 0),)),
            (TRIANGLE, (0, 1, 1), ((0, 2),), ()),
            (TRIANGLE, (1, 0, 0), ((0, 2),), ((0, 2),)),
            (TRIANGLE, (2, 0, 1), ((0, 2), (1, 1), (2, 0)), ((0, 2),)),
            # The key is between the depths of the row: it is plainly kept out, but not deeply.
            (Table(3, ((0, 1),)), (0, 2, 1), ((2, 0),), ()),
            (Table(3, ((0, 1),)), (0, 2, 2), (), ()),
            (Table(3, ((0, 1),)), (0, 2, 3), ((2, 0),), ((2, 0),)),
            (Table(5, ((0, 1, 2, 3, 4),) * 5), (0, 1, 2, 3, 0), (), ()),
            (Table(5, ((2,),)), (0, 1, 1, 2, 3), ((0, 0), (3, 0), (4, 0)), ((3, 0), (4, 0))),
            # Equal rows keep out the same keys.
            (Table(2, ((1,), (1,))), (1, 0), ((0, 0), (0, 1)), ((0, 0), (0, 1))),
        ):
            self.assertEqual(kept_out(table, parting, "plain"), plain, (table.rows, parting))
            self.assertEqual(kept_out(table, parting, "deep"), deep, (table.rows, parting))

    def test_it_is_just_the_pairs_that_are_kept_out(self):
        for table in small_tables():
            for parting in all_partings(table, 4):
                for kind in KINDS:
                    told = kept_out(table, parting, kind)
                    self.assertTrue(is_plain(told))
                    self.assertEqual(
                        told, tuple(pair for pair in outs(table) if is_kept_out(table, parting, kind, pair))
                    )

    def test_larger_tables(self):
        for table in large_tables()[::3]:
            for parting in all_partings(table, 4)[::13]:
                for kind in KINDS:
                    told = kept_out(table, parting, kind)
                    self.assertTrue(is_plain(told))
                    self.assertEqual(list(told), sorted(set(told)))
                    for pair in outs(table):
                        self.assertEqual(pair in told, is_kept_out(table, parting, kind, pair))

    def test_what_is_deeply_kept_out_is_plainly_kept_out(self):
        for table in small_tables():
            for parting in all_partings(table, 3):
                self.assertLessEqual(set(kept_out(table, parting, "deep")), set(kept_out(table, parting, "plain")))

    def test_cuts_fit_just_if_their_chambers_keep_out_all_outs_plainly(self):
        for table in small_tables():
            for partings in product(all_partings(table, 2), repeat=2):
                kept = set(kept_out(table, partings[0], "plain")) | set(kept_out(table, partings[1], "plain"))
                self.assertIs(fits(table, 2, tuple(zip(*partings))), kept == set(outs(table)))
            for parting in all_partings(table, 4):
                kept = kept_out(table, parting, "plain")
                self.assertIs(fits(table, 4, tuple((depth,) for depth in parting)), kept == outs(table))

    def test_other_kinds(self):
        for kind in OTHER_KINDS:
            before = unchanged(kind)
            for parting in ((0, 0, 0), (0, 1, 2)):
                with self.assertRaises(InvalidKind) as caught:
                    kept_out(TRIANGLE, parting, kind)
                self.assertIs(type(caught.exception), InvalidKind)
                self.assertIs(caught.exception.value, kind)
            self.assertEqual(unchanged(kind), before)

    def test_other_kinds_where_there_are_no_outs(self):
        with self.assertRaises(InvalidKind):
            kept_out(Table(1, ((0,),)), (0,), "flat")

    def test_arguments(self):
        parting = Row((0, 1, 2))
        before = unchanged(parting), unchanged(TRIANGLE)
        self.assertEqual(kept_out(kind="deep", parting=parting, table=TRIANGLE), ((2, 0),))
        self.assertEqual(kept_out(TRIANGLE, parting, kind="deep"), ((2, 0),))
        self.assertEqual((unchanged(parting), unchanged(TRIANGLE)), before)


class CutsFor(unittest.TestCase):

    def assert_some_cuts(self, table, depths, k, kind):
        before = unchanged(table)
        cuts = cuts_for(table, depths, k, kind)
        self.assertTrue(is_plain(cuts))
        self.assertTrue(are_good_cuts(table, depths, k, kind, cuts), (table.rows, depths, k, kind, cuts))
        self.assertIs(are_cuts(table, depths, cuts), True)
        self.assertIs(fits(table, depths, cuts), True)
        self.assertEqual(cuts_for(table, depths, k, kind), cuts)
        self.assertEqual(unchanged(table), before)

    def assert_no_cuts(self, table, depths, k, kind):
        with self.assertRaises(Undefined) as caught:
            cuts_for(table, depths, k, kind)
        self.assertIs(type(caught.exception), Undefined)
        self.assertEqual(caught.exception.what, "cuts")

    def test_there_are_cuts_just_from_the_fewest_chambers_on(self):
        for table, plain, deep in FEWEST:
            for depths in (2, 3, 4):
                for kind, least in (("plain", plain[depths - 2]), ("deep", deep[depths - 2])):
                    for k in range(1, 6):
                        if k < least:
                            self.assert_no_cuts(table, depths, k, kind)
                        else:
                            self.assert_some_cuts(table, depths, k, kind)

    def test_small_tables(self):
        for table in small_tables():
            for depths in (2, 3, 4):
                for kind in KINDS:
                    least = least_chambers(table, depths, kind)
                    for k in range(1, 6):
                        if k < least:
                            self.assert_no_cuts(table, depths, k, kind)
                        else:
                            self.assert_some_cuts(table, depths, k, kind)

    def test_cuts_just_where_there_are_no_walls(self):
        for table in large_tables():
            for depths, k, kind in product((2, 3, 4), range(1, 6), KINDS):
                try:
                    self.assertTrue(are_good_cuts(table, depths, k, kind, cuts_for(table, depths, k, kind)))
                    with self.assertRaises(Undefined) as caught:
                        walls(table, depths, k, kind)
                    self.assertEqual(caught.exception.what, "walls")
                except Undefined as error:
                    self.assertEqual(error.what, "cuts")
                    self.assertTrue(walls_hold(table, depths, k, kind, walls(table, depths, k, kind)))

    def test_no_outs(self):
        for table in (Table(1, ((0,),)), Table(1, ((0,),) * 5), Table(5, ((0, 1, 2, 3, 4),)), Table(2, ((0, 1),))):
            for depths, k, kind in product((2, 4), (1, 5), KINDS):
                self.assert_some_cuts(table, depths, k, kind)

    def test_deep_cuts_are_deep(self):
        # In plain cuts of these tables the keys may be cut either way; in deep ones they may not.
        table = Table(3, ((2,),))
        for depths, k in product((2, 3, 4), range(1, 6)):
            cuts = cuts_for(table, depths, k, "deep")
            for key in (0, 1):
                self.assertTrue(any(cuts[key][at] > cuts[2][at] for at in range(k)))

    def test_arguments_by_name(self):
        self.assertTrue(are_good_cuts(TRIANGLE, 3, 1, "plain", cuts_for(kind="plain", k=1, depths=3, table=TRIANGLE)))
        with self.assertRaises(Undefined):
            cuts_for(kind="deep", k=1, depths=3, table=TRIANGLE)


class WhatCutsForRefuses(unittest.TestCase):

    def assert_refused(self, error, value, depths, k, kind):
        before = unchanged(value)
        with self.assertRaises(error) as caught:
            cuts_for(TRIANGLE, depths, k, kind)
        self.assertIs(type(caught.exception), error)
        self.assertIs(caught.exception.value, value)
        self.assertEqual(unchanged(value), before)

    def test_depths(self):
        for depths in OTHER_NUMBERS + (1, 5):
            self.assert_refused(InvalidNumber, depths, depths, 3, "plain")
            self.assert_refused(InvalidNumber, depths, depths, 1, "plain")

    def test_chambers(self):
        for k in OTHER_NUMBERS:
            self.assert_refused(InvalidNumber, k, 2, k, "plain")

    def test_kinds(self):
        for kind in OTHER_KINDS:
            self.assert_refused(InvalidKind, kind, 2, 3, kind)
            self.assert_refused(InvalidKind, kind, 2, 1, kind)

    def test_their_order(self):
        for depths in (1, 5, True, None, "2", [2]):
            for k in (0, 6, False, None, "3", [3], 3, 1):
                for kind in ("flat", None, ["plain"], 0, "plain"):
                    self.assert_refused(InvalidNumber, depths, depths, k, kind)
        for k in (0, 6, True, None, "3", [3], 10 ** 12 - 1):
            for kind in ("flat", None, ["plain"], 0, "plain"):
                self.assert_refused(InvalidNumber, k, 2, k, kind)


class Fewest(unittest.TestCase):

    def test_by_hand(self):
        for table, plain, deep in FEWEST:
            for depths in (2, 3, 4):
                self.assertEqual(fewest(table, depths, "plain"), plain[depths - 2], (table.rows, depths))
                self.assertEqual(fewest(table, depths, "deep"), deep[depths - 2], (table.rows, depths))
                self.assertIs(type(fewest(table, depths, "deep")), int)

    def test_small_tables(self):
        for table in small_tables():
            for depths in (2, 3, 4):
                for kind in KINDS:
                    self.assertEqual(fewest(table, depths, kind), least_chambers(table, depths, kind))

    def test_the_fewest_are_enough_and_fewer_are_not(self):
        for table in large_tables():
            for depths in (2, 3, 4):
                for kind in KINDS:
                    before = unchanged(table)
                    k = fewest(table, depths, kind)
                    self.assertTrue(are_good_cuts(table, depths, k, kind, cuts_for(table, depths, k, kind)))
                    for fewer in range(1, k):
                        self.assertTrue(walls_hold(table, depths, fewer, kind, walls(table, depths, fewer, kind)))
                        with self.assertRaises(Undefined):
                            cuts_for(table, depths, fewer, kind)
                    self.assertEqual(unchanged(table), before)

    def test_large_tables_the_plain_way(self):
        for table in (APART, FOUR) + tuple(large_tables()[::11]):
            for depths, kind in ((2, "plain"), (3, "plain"), (4, "plain"), (2, "deep"), (3, "deep")):
                self.assertEqual(fewest(table, depths, kind), least_chambers(table, depths, kind))

    def test_its_bounds(self):
        for table in small_tables() + large_tables():
            plain = [fewest(table, depths, "plain") for depths in (2, 3, 4)]
            deep = [fewest(table, depths, "deep") for depths in (2, 3, 4)]
            self.assertLessEqual(max(plain + deep), table.many)
            self.assertEqual(plain, sorted(plain, reverse=True))
            self.assertEqual(deep, sorted(deep, reverse=True))
            self.assertTrue(all(one <= other for one, other in zip(plain, deep)))

    def test_all_keys_may_need_a_chamber_of_their_own(self):
        rows = tuple(tuple(key for key in range(5) if key != out) for out in range(5))
        table = Table(5, rows)
        for depths in (2, 3, 4):
            self.assertEqual(fewest(table, depths, "deep"), 5)
        self.assertEqual(fewest(table, 2, "plain"), 5)

    def test_what_it_refuses(self):
        for depths in OTHER_NUMBERS + (1, 5):
            for kind in ("plain", "flat", None, ["deep"], 0):
                before = unchanged(depths)
                with self.assertRaises(InvalidNumber) as caught:
                    fewest(TRIANGLE, depths, kind)
                self.assertIs(type(caught.exception), InvalidNumber)
                self.assertIs(caught.exception.value, depths)
                self.assertEqual(unchanged(depths), before)
        for kind in OTHER_KINDS:
            for depths in (2, 3, 4):
                with self.assertRaises(InvalidKind) as caught:
                    fewest(TRIANGLE, depths, kind)
                self.assertIs(type(caught.exception), InvalidKind)
                self.assertIs(caught.exception.value, kind)

    def test_arguments_by_name(self):
        self.assertEqual(fewest(kind="deep", depths=3, table=TRIANGLE), 3)
        self.assertEqual(fewest(TRIANGLE, depths=3, kind="plain"), 1)


if __name__ == "__main__":
    unittest.main()
