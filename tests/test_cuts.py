"""Tests of the cuts: [6], what [1], [2] and [4] say of them, and promise (1)."""

import unittest
from itertools import combinations, product

from chambercuts.cuts import are_cuts, falls, fits, least_stacks
from chambercuts.errors import InvalidCuts, InvalidNumber
from chambercuts.tables import Table, outs
from tests.samples import EVERYTHING, NEITHER, Row, is_plain, unchanged

THREE = Table(3, ((0, 1), (2,)))


def all_cuts(k, depths):
    return list(product(range(depths), repeat=k))


def all_stacks(k, depths):
    """Return all tuples of k stacks of these depths."""
    subsets = [part for size in range(depths + 1) for part in combinations(range(depths), size)]
    return list(product(subsets, repeat=k))


def all_rows(many):
    return [row for size in range(1, many + 1) for row in combinations(range(many), size)]


class AreCuts(unittest.TestCase):

    def assert_cuts(self, table, depths, value):
        before = unchanged(value)
        self.assertIs(are_cuts(table, depths, value), True, (depths, value))
        self.assertEqual(unchanged(value), before)

    def assert_no_cuts(self, table, depths, value):
        before = unchanged(value)
        self.assertIs(are_cuts(table, depths, value), False, (depths, value))
        self.assertEqual(unchanged(value), before)

    def test_cuts_of_each_number_of_chambers(self):
        for k in range(8):
            for depths in (2, 3, 4):
                cuts = ((0,) * k, (depths - 1,) * k, (1,) * k)
                self.assertIs(are_cuts(THREE, depths, cuts), 1 <= k <= 5)

    def test_cuts_for_each_number_of_keys(self):
        for many in range(1, 6):
            table = Table(many, ((0,),))
            for given in range(8):
                self.assertIs(are_cuts(table, 2, ((0, 1),) * given), given == many)

    def test_all_small_cuts(self):
        table = Table(2, ((0,),))
        for depths in (2, 3, 4):
            for one in product(range(-1, 6), repeat=2):
                for other in product(range(-1, 6), repeat=2):
                    told = all(0 <= depth < depths for depth in one + other)
                    self.assertIs(are_cuts(table, depths, (one, other)), told)

    def test_equal_cuts_are_cuts(self):
        self.assert_cuts(THREE, 2, ((0, 0), (0, 0), (0, 0)))

    def test_cuts_that_do_not_fit_are_cuts(self):
        self.assert_cuts(THREE, 2, ((0,), (1,), (0,)))

    def test_unlike_lengths(self):
        for cuts in (
            ((0,), (0, 0), (0,)), ((0, 0), (0,), (0,)), ((0,), (0,), (0, 0)), ((0, 0), (0, 0), (0,)),
            ((0, 0), (0, 0), ()), ((), (0,), (0,)), ((0,), (), ()), ((0,) * 5, (0,) * 5, (0,) * 6),
        ):
            self.assert_no_cuts(THREE, 4, cuts)

    def test_no_chamber_and_six_chambers(self):
        for many in range(1, 6):
            table = Table(many, ((0,),))
            self.assert_no_cuts(table, 4, ((),) * many)
            self.assert_no_cuts(table, 4, ((0,) * 6,) * many)
            self.assert_cuts(table, 4, ((0,) * 5,) * many)
            self.assert_cuts(table, 4, ((0,),) * many)

    def test_depths_too_great_or_below_none(self):
        for depths in (2, 3, 4):
            for bad in (depths, depths + 1, 10 ** 12 - 1, -1, -depths, -(10 ** 12 - 1)):
                for key in range(3):
                    for chamber in range(2):
                        cuts = [[0, 1], [1, 0], [1, 1]]
                        cuts[key][chamber] = bad
                        self.assert_no_cuts(THREE, depths, tuple(tuple(cut) for cut in cuts))

    def test_other_depths(self):
        for bad in NEITHER:
            for key in range(3):
                cuts = [(0, 1), (1, 0), (1, 1)]
                cuts[key] = (0, bad)
                self.assert_no_cuts(THREE, 2, tuple(cuts))
                cuts[key] = (bad, 1)
                self.assert_no_cuts(THREE, 2, tuple(cuts))

    def test_bools_for_depths(self):
        for cuts in (((True,), (0,), (1,)), ((0,), (False,), (1,)), ((0,), (1,), (True,)), ((False,),) * 3):
            self.assert_no_cuts(THREE, 2, cuts)

    def test_lists_for_tuples(self):
        for cuts in (
            [(0,), (1,), (0,)], [[0], [1], [0]], ([0], (1,), (0,)), ((0,), [1], (0,)), ((0,), (1,), [0]),
            ([0], [1], [0]),
        ):
            self.assert_no_cuts(THREE, 2, cuts)

    def test_other_cuts(self):
        for bad in (None, 0, 1, True, "0", "", [0], [], {}, THREE):
            self.assert_no_cuts(THREE, 2, (bad, (0,), (1,)))
            self.assert_no_cuts(THREE, 2, ((0,), bad, (1,)))
            self.assert_no_cuts(THREE, 2, ((0,), (1,), bad))

    def test_other_values(self):
        for value in EVERYTHING + (THREE,):
            self.assert_no_cuts(THREE, 2, value)

    def test_other_values_for_one_key(self):
        table = Table(1, ((0,),))
        for value in EVERYTHING:
            self.assertIs(are_cuts(table, 4, value), value == ((0,),) and is_plain(value))

    def test_tuples_of_a_class_of_their_own_are_tuples(self):
        self.assert_cuts(THREE, 2, Row((Row((0, 1)), (1, 0), Row((1, 1)))))

    def test_arguments_by_name(self):
        self.assertIs(are_cuts(value=((0,), (1,), (1,)), depths=2, table=THREE), True)
        self.assertIs(are_cuts(value=((0,), (1,), (2,)), depths=2, table=THREE), False)


class LeastStacks(unittest.TestCase):

    def test_least_stacks_by_hand(self):
        cuts = ((0, 3, 1), (2, 3, 0), (1, 0, 0), (0, 0, 3))
        for keys, told in (
            ((0,), ((0,), (3,), (1,))),
            ((1,), ((2,), (3,), (0,))),
            ((3,), ((0,), (0,), (3,))),
            ((0, 1), ((0, 2), (3,), (0, 1))),
            ((1, 2), ((1, 2), (0, 3), (0,))),
            ((0, 3), ((0,), (0, 3), (1, 3))),
            ((0, 1, 2, 3), ((0, 1, 2), (0, 3), (0, 1, 3))),
        ):
            self.assertEqual(least_stacks(cuts, keys), told)

    def test_one_chamber_and_five(self):
        self.assertEqual(least_stacks(((3,), (0,)), (0, 1)), ((0, 3),))
        self.assertEqual(least_stacks(((0, 1, 2, 3, 0),), (0,)), ((0,), (1,), (2,), (3,), (0,)))
        self.assertEqual(least_stacks(((3,), (2,), (1,), (0,), (3,)), (0, 1, 2, 3, 4)), ((0, 1, 2, 3),))

    def test_they_have_just_the_depths_of_the_keys_in_order(self):
        pool = all_cuts(2, 3)
        for cuts in product(pool, repeat=3):
            before = unchanged(cuts)
            for keys in ((0,), (2,), (0, 1), (1, 2), (0, 2), (0, 1, 2)):
                told = least_stacks(cuts, keys)
                self.assertTrue(is_plain(told))
                self.assertEqual(len(told), 2)
                for chamber in range(2):
                    stack = told[chamber]
                    self.assertEqual(list(stack), sorted(set(cuts[key][chamber] for key in keys)))
            self.assertEqual(unchanged(cuts), before)

    def test_they_are_plain_whatever_they_come_from(self):
        cuts = Row((Row((0, 1)), Row((1, 1))))
        self.assertTrue(is_plain(least_stacks(cuts, Row((0, 1)))))
        self.assertEqual(least_stacks(cuts, Row((0, 1))), ((0, 1), (1,)))

    def test_arguments_by_name(self):
        self.assertEqual(least_stacks(keys=(1,), cuts=((0,), (1,))), ((1,),))


class Falls(unittest.TestCase):

    def test_falls_by_hand(self):
        for cut, stacks, told in (
            ((0,), ((0,),), True),
            ((1,), ((0,),), False),
            ((0,), ((),), False),
            ((1,), ((0, 1, 3),), True),
            ((2,), ((0, 1, 3),), False),
            ((0, 1), ((0,), (1,)), True),
            ((0, 1), ((0,), ()), False),
            ((0, 1), ((), (1,)), False),
            ((0, 1), ((), ()), False),
            ((0, 1), ((1,), (0,)), False),
            ((0, 1), ((0, 1), (0,)), False),
            ((0, 1), ((1,), (0, 1)), False),
            ((3, 0, 2, 1, 3), ((3,), (0, 1), (1, 2), (0, 1, 2, 3), (3,)), True),
            ((3, 0, 2, 1, 3), ((3,), (0, 1), (1, 2), (0, 1, 2, 3), (2,)), False),
            ((3, 0, 2, 1, 3), ((3,), (0, 1), (), (0, 1, 2, 3), (3,)), False),
        ):
            self.assertIs(falls(cut, stacks), told, (cut, stacks))

    def test_each_depth_is_asked_for(self):
        for stacks in all_stacks(2, 3):
            before = unchanged(stacks)
            for cut in all_cuts(2, 3):
                told = cut[0] in stacks[0] and cut[1] in stacks[1]
                self.assertIs(falls(cut, stacks), told)
            self.assertEqual(unchanged(stacks), before)

    def test_the_keys_of_the_least_stacks_fall_into_them(self):
        for cuts in product(all_cuts(2, 3), repeat=2):
            for keys in ((0,), (1,), (0, 1)):
                for key in keys:
                    self.assertIs(falls(cuts[key], least_stacks(cuts, keys)), True)

    def test_arguments_by_name(self):
        self.assertIs(falls(stacks=((0, 1),), cut=(1,)), True)
        self.assertIs(falls(stacks=((0, 1),), cut=(2,)), False)


class Fits(unittest.TestCase):

    def test_cuts_that_fit(self):
        for table, depths, cuts in (
            (Table(1, ((0,),)), 2, ((0,),)),
            (Table(2, ((0, 1),)), 2, ((0,), (0,))),
            (Table(2, ((0,), (1,))), 2, ((0,), (1,))),
            (Table(3, ((0, 1), (2,))), 2, ((0,), (0,), (1,))),
            (Table(3, ((0, 1), (0, 2))), 2, ((0, 0), (0, 1), (1, 0))),
            (Table(3, ((0, 1), (0, 2), (1, 2))), 3, ((0,), (1,), (2,))),
            (Table(5, ((0,), (1,), (2,), (3,), (4,))), 3, ((0, 0), (0, 1), (1, 0), (1, 1), (2, 2))),
            (Table(2, ((0,), (1,))), 4, ((3, 3, 3, 3, 3), (3, 3, 3, 3, 0))),
        ):
            self.assertIs(fits(table, depths, cuts), True, cuts)

    def test_cuts_that_do_not_fit(self):
        for table, depths, cuts in (
            (Table(2, ((0,),)), 2, ((0,), (0,))),
            (Table(2, ((1,),)), 2, ((1, 1), (1, 1))),
            (Table(3, ((0, 1), (2,))), 2, ((0,), (1,), (1,))),
            # The last key is cut like none of the others, but falls into what they need together.
            (Table(3, ((0, 1),)), 2, ((0, 0), (1, 1), (0, 1))),
            (Table(4, ((0,), (1, 2))), 3, ((0, 0), (1, 2), (2, 1), (1, 1))),
            # Only one of the locks is opened by a key too many, the first or the last.
            (Table(3, ((0,), (1,))), 2, ((0,), (1,), (0,))),
            (Table(3, ((0,), (1,))), 2, ((0,), (1,), (1,))),
        ):
            self.assertIs(fits(table, depths, cuts), False, cuts)

    def test_fits_both_ways_for_all_small_cuts(self):
        tables = [Table(3, rows) for size in (1, 2) for rows in product(all_rows(3), repeat=size)]
        for cuts in product(all_cuts(2, 2), repeat=3):
            for table in tables:
                told = True
                for key, lock in outs(table):
                    row = table.rows[lock]
                    if all(any(cuts[other][at] == cuts[key][at] for other in row) for at in range(2)):
                        told = False
                self.assertIs(fits(table, 2, cuts), told)

    def test_arguments_stay_as_they_are(self):
        cuts = Row((Row((0, 0)), (0, 1), (1, 0)))
        table = Table(3, ((0, 1), (0, 2)))
        before = unchanged(cuts), unchanged(table)
        self.assertIs(fits(table, 2, cuts), True)
        self.assertIs(fits(table, 2, cuts), True)
        self.assertEqual((unchanged(cuts), unchanged(table)), before)

    def test_arguments_by_name(self):
        self.assertIs(fits(cuts=((0,), (1,), (0,)), depths=2, table=THREE), False)
        self.assertIs(fits(cuts=((0,), (0,), (1,)), depths=2, table=THREE), True)


class WhatFitsRefuses(unittest.TestCase):

    def assert_no_number(self, table, depths, cuts):
        before = unchanged(depths), unchanged(cuts)
        with self.assertRaises(InvalidNumber) as caught:
            fits(table, depths, cuts)
        self.assertIs(type(caught.exception), InvalidNumber)
        self.assertIs(caught.exception.value, depths)
        self.assertEqual((unchanged(depths), unchanged(cuts)), before)

    def assert_no_cuts(self, table, depths, cuts):
        before = unchanged(cuts)
        with self.assertRaises(InvalidCuts) as caught:
            fits(table, depths, cuts)
        self.assertIs(type(caught.exception), InvalidCuts)
        self.assertIs(caught.exception.value, cuts)
        self.assertEqual(unchanged(cuts), before)

    def test_numbers_of_depths(self):
        for depths in (-2, -1, 0, 1, 5, 6, 10 ** 12 - 1, -(10 ** 12 - 1)):
            self.assert_no_number(THREE, depths, ((0,), (0,), (1,)))
            self.assert_no_number(THREE, depths, ((0,), (0,), (0,)))
        for depths in (2, 3, 4):
            self.assertIs(fits(THREE, depths, ((0,), (0,), (depths - 1,))), True)

    def test_a_number_of_depths_that_is_none(self):
        for depths in NEITHER:
            self.assert_no_number(THREE, depths, ((0,), (0,), (1,)))

    def test_what_are_no_cuts(self):
        for cuts in EVERYTHING + (
            ((0,), (1,)), ((0,),) * 4, ((0,), (0,), (2,)), ((0,), (0,), (-1,)), ((0,), (0,), (True,)),
            ((0,), (0, 0), (1,)), ((),) * 3, ((0,) * 6,) * 3, [(0,), (0,), (1,)], ([0], [0], [1]),
            ((0,), (0,), 1), ((0,), (0,), None), ((0,), (0,), ("1",)), THREE, (THREE,) * 3,
        ):
            self.assert_no_cuts(THREE, 2, cuts)

    def test_the_depths_that_are_given_count(self):
        for depths in (2, 3):
            self.assert_no_cuts(THREE, depths, ((0,), (0,), (depths,)))
            self.assertIs(fits(THREE, depths + 1, ((0,), (0,), (depths,))), True)

    def test_cuts_for_another_table(self):
        self.assert_no_cuts(Table(2, ((0,),)), 2, ((0,), (0,), (1,)))
        self.assert_no_cuts(Table(4, ((0,),)), 2, ((0,), (0,), (1,)))

    def test_the_number_is_looked_at_first(self):
        for depths in (1, 5, 0, -1, True, False, None, "2", [2], (2,), 10 ** 12 - 1):
            for cuts in EVERYTHING + (((0,), (0,), (9,)), ((0,),) * 4):
                self.assert_no_number(THREE, depths, cuts)


class WhatTheCutsPromise(unittest.TestCase):
    """Promise (1), tried on all small tables, cuts and stacks."""

    def opened_by_just(self, cuts, row, stacks):
        return all(falls(cuts[key], stacks) == (key in row) for key in range(len(cuts)))

    def test_cuts_that_fit_open_by_the_least_stacks_just_what_the_table_tells(self):
        for rows in product(all_rows(3), repeat=2):
            table = Table(3, rows)
            for cuts in product(all_cuts(2, 2), repeat=3):
                told = all(self.opened_by_just(cuts, row, least_stacks(cuts, row)) for row in rows)
                self.assertIs(fits(table, 2, cuts), told)

    def test_where_any_stacks_do_the_cuts_fit(self):
        for k, depths in ((2, 2), (1, 3)):
            stacks = all_stacks(k, depths)
            for cuts in product(all_cuts(k, depths), repeat=3):
                for row in all_rows(3):
                    some = any(self.opened_by_just(cuts, row, given) for given in stacks)
                    self.assertIs(fits(Table(3, (row,)), depths, cuts), some)


if __name__ == "__main__":
    unittest.main()
