"""Tests of the tables: [5], and what [1], [2] and [4] say of them."""

import unittest
from itertools import combinations, product

from chambercuts.errors import InvalidLocks, InvalidNumber
from chambercuts.tables import Table, outs
from tests.samples import NEITHER, Row, is_plain, unchanged

NUMBERS = (0, 1, 2, 3, 4, 5, 6, -1, -5, 10 ** 12 - 1, -(10 ** 12 - 1))


def all_rows(many):
    """Return all rows that a table of so many keys may have."""
    return [row for size in range(1, many + 1) for row in combinations(range(many), size)]


def some_tables():
    """Return tables of 1 to 5 keys and 1 to 5 locks."""
    tables = []
    for many in range(1, 6):
        rows = all_rows(many)
        for locks in range(1, 6):
            for start in range(len(rows)):
                tables.append((many, tuple(rows[(start + 3 * at) % len(rows)] for at in range(locks))))
    return tables


class TablesThatAreLet(unittest.TestCase):

    def test_tables_of_each_size(self):
        for many, rows in some_tables():
            table = Table(many, rows)
            self.assertEqual(table.many, many)
            self.assertEqual(table.rows, rows)
            self.assertIs(type(table.many), int)
            self.assertTrue(is_plain(table.rows))

    def test_arguments_by_name(self):
        self.assertEqual(Table(rows=((0, 2),), many=3), Table(3, ((0, 2),)))
        self.assertEqual(Table(3, rows=((0, 2),)), Table(3, ((0, 2),)))

    def test_rows_may_be_equal_and_in_any_order(self):
        for rows in (((1,), (0,)), ((0,), (0,)), ((0, 1), (0,), (0, 1)), ((1,),) * 5):
            self.assertEqual(Table(2, rows).rows, rows)

    def test_a_key_may_stand_in_no_row(self):
        self.assertEqual(Table(5, ((0,),)).rows, ((0,),))

    def test_tuples_of_a_class_of_their_own_become_plain(self):
        given = Row((Row((0, 1)), (2,)))
        table = Table(3, given)
        self.assertTrue(is_plain(table.rows))
        self.assertEqual(table.rows, ((0, 1), (2,)))
        self.assertIs(type(given), Row)
        self.assertIs(type(given[0]), Row)
        self.assertEqual(table, Table(3, ((0, 1), (2,))))

    def test_it_is_just_the_rows_that_the_words_describe(self):
        # All tuples of keys from -1 to many + 1, of up to three members.
        for many in range(1, 5):
            let = all_rows(many)
            for size in range(4):
                for row in product(range(-1, many + 2), repeat=size):
                    if row in let:
                        self.assertEqual(Table(many, (row,)).rows, (row,))
                    else:
                        self.assert_no_rows(many, (row,))
                        self.assert_no_rows(many, ((0,), row))
                        self.assert_no_rows(many, (row, (0,)))

    def assert_no_rows(self, many, rows):
        with self.assertRaises(InvalidLocks) as caught:
            Table(many, rows)
        self.assertIs(type(caught.exception), InvalidLocks)
        self.assertIs(caught.exception.value, rows)


class WhatIsNoTable(unittest.TestCase):

    def assert_no_number(self, many, rows):
        before = unchanged(many), unchanged(rows)
        with self.assertRaises(InvalidNumber) as caught:
            Table(many, rows)
        self.assertIs(type(caught.exception), InvalidNumber)
        self.assertIs(caught.exception.value, many)
        self.assertEqual((unchanged(many), unchanged(rows)), before)

    def assert_no_rows(self, many, rows):
        before = unchanged(rows)
        with self.assertRaises(InvalidLocks) as caught:
            Table(many, rows)
        self.assertIs(type(caught.exception), InvalidLocks)
        self.assertIs(caught.exception.value, rows)
        self.assertEqual(unchanged(rows), before)

    def test_numbers_of_keys(self):
        for many in NUMBERS:
            if 1 <= many <= 5:
                self.assertEqual(Table(many, ((0,),)).many, many)
            else:
                self.assert_no_number(many, ((0,),))

    def test_a_number_of_keys_that_is_none(self):
        for many in NEITHER:
            self.assert_no_number(many, ((0,),))

    def test_a_bool_is_no_number_of_keys(self):
        self.assert_no_number(True, ((0,),))
        self.assert_no_number(False, ((0,),))

    def test_no_row_and_six_rows(self):
        self.assert_no_rows(3, ())
        self.assert_no_rows(3, ((0,),) * 6)
        self.assert_no_rows(3, ((0,), (1,), (2,), (0, 1), (0, 2), (1, 2)))
        self.assert_no_rows(3, ((0,),) * 15000)
        self.assertEqual(len(Table(3, ((0,),) * 5).rows), 5)

    def test_an_empty_row(self):
        for rows in (((),), ((0,), ()), ((), (0,)), ((0,), (), (1,))):
            self.assert_no_rows(3, rows)

    def test_a_row_out_of_order_or_with_a_key_twice(self):
        for row in ((1, 0), (0, 2, 1), (2, 1, 0), (0, 0), (0, 1, 1), (0, 0, 1), (1, 2, 0)):
            self.assert_no_rows(3, (row,))
            self.assert_no_rows(3, ((0,), row))
            self.assert_no_rows(3, (row, (0,)))

    def test_keys_beyond_many_and_below_none(self):
        for many in range(1, 6):
            self.assertEqual(Table(many, ((many - 1,),)).rows, ((many - 1,),))
            for key in (many, many + 1, 10 ** 12 - 1, -1, -many, -(10 ** 12 - 1)):
                self.assert_no_rows(many, ((key,),))
                self.assert_no_rows(many, ((0,), (key,)))
            self.assert_no_rows(many, ((0, many),))
            self.assert_no_rows(many, ((-1, 0),))
        self.assert_no_rows(3, (tuple(range(20000)),))

    def test_bools_for_keys(self):
        for rows in (((True,),), ((False,),), ((0, True),), ((False, 1),), ((0,), (True,)), ((0, True, 2),)):
            self.assert_no_rows(3, rows)

    def test_lists_for_tuples(self):
        for rows in ([(0,)], [[0]], ([0],), ((0,), [1]), ([0], (1,)), [(0,), (1,)], ((0, [1]),), [0], []):
            self.assert_no_rows(3, rows)

    def test_other_keys(self):
        for key in NEITHER:
            self.assert_no_rows(3, ((key,),))
            self.assert_no_rows(3, ((0, key),))
            self.assert_no_rows(3, ((key, 1),))

    def test_other_rows(self):
        for row in (0, 1, -1, None, True, "", "0", "01", [], [0], [0, 1], Table(1, ((0,),)), ((0,),)):
            self.assert_no_rows(3, (row,))
            self.assert_no_rows(3, ((0,), row))

    def test_other_values(self):
        for rows in NEITHER + NUMBERS + ((0,), (0, 1), (0, 1, 2)):
            self.assert_no_rows(3, rows)

    def test_the_number_is_looked_at_first(self):
        for many in (0, 6, -1, True, False, None, "3", [3], (3,), 10 ** 12 - 1):
            for rows in NEITHER + (((),), ((7,),), ((0,),) * 6, 3):
                self.assert_no_number(many, rows)


class Equality(unittest.TestCase):

    def test_tables_are_equal_if_both_are(self):
        for many, rows in some_tables():
            copy = tuple([tuple([key for key in row]) for row in rows])
            self.assertIs(Table(many, rows) == Table(many, copy), True)
            self.assertIs(Table(many, rows) != Table(many, copy), False)

    def test_tables_that_differ_in_one(self):
        for one, other in (
            (Table(3, ((0, 1),)), Table(4, ((0, 1),))),
            (Table(3, ((0, 1),)), Table(3, ((0, 2),))),
            (Table(3, ((0, 1),)), Table(3, ((0,),))),
            (Table(3, ((0,), (1,))), Table(3, ((1,), (0,)))),
            (Table(3, ((0,),)), Table(3, ((0,), (0,)))),
            (Table(1, ((0,),)), Table(2, ((0,),))),
        ):
            self.assertIs(one == other, False)
            self.assertIs(other == one, False)
            self.assertIs(one != other, True)

    def test_all_pairs_of_some_tables(self):
        given = some_tables()[::7]
        for one in given:
            for other in given:
                self.assertIs(Table(*one) == Table(*other), one == other)

    def test_what_is_no_table_is_not_equal(self):
        table = Table(3, ((0, 1),))
        others = (3, ((0, 1),), (3, ((0, 1),)), [3, ((0, 1),)], None, True, "Table", [table], (table,), outs(table))
        for other in others:
            self.assertIs(table == other, False)
            self.assertIs(other == table, False)
            self.assertIs(table != other, True)

    def test_what_looks_like_a_table_is_not_equal(self):
        class Other:
            many = 3
            rows = ((0, 1),)

        self.assertIs(Table(3, ((0, 1),)) == Other(), False)

    def test_tables_are_not_iterable(self):
        table = Table(2, ((0,), (1,)))
        with self.assertRaises(TypeError):
            iter(table)
        with self.assertRaises(TypeError):
            list(table)
        with self.assertRaises(TypeError):
            [key for key in table]


class Outs(unittest.TestCase):

    def test_outs_by_hand(self):
        for many, rows, told in (
            (1, ((0,),), ()),
            (2, ((0, 1),), ()),
            (5, ((0, 1, 2, 3, 4),) * 5, ()),
            (2, ((0,),), ((1, 0),)),
            (2, ((0,), (1,)), ((0, 1), (1, 0))),
            (3, ((2,), (0, 1)), ((0, 0), (1, 0), (2, 1))),
            (3, ((0, 1), (0, 2), (1, 2)), ((0, 2), (1, 1), (2, 0))),
            (3, ((1,), (1,), (0, 1)), ((0, 0), (0, 1), (2, 0), (2, 1), (2, 2))),
        ):
            self.assertEqual(outs(Table(many, rows)), told)

    def test_outs_are_the_pairs_that_no_row_has_in_order(self):
        for many, rows in some_tables():
            table = Table(many, rows)
            told = outs(table)
            self.assertTrue(is_plain(told))
            self.assertEqual(list(told), sorted(set(told)))
            for key in range(many):
                for lock in range(len(rows)):
                    self.assertEqual((key, lock) in told, key not in rows[lock])
            self.assertTrue(all(0 <= key < many and 0 <= lock < len(rows) for key, lock in told))
            self.assertEqual((table.many, table.rows), (many, rows))
            self.assertEqual(outs(table), told)

    def test_the_argument_by_name(self):
        self.assertEqual(outs(table=Table(2, ((0,),))), ((1, 0),))


if __name__ == "__main__":
    unittest.main()
