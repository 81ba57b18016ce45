"""Tests of cuts that are made of some keys: [11], and promise (6)."""

import unittest

from chambercuts.errors import InvalidKeys, InvalidNumber, Undefined
from chambercuts.making import made_of, makers
from chambercuts.systems import System, opened
from chambercuts.tables import Table
from tests.plainly import all_makers, bunches, first_made, is_made
from tests.sample_systems import (
    APART, APART_CUTS, FULL, ONE, TWO, TWO_CUTS, large_systems, odd_systems, small_systems, some_systems,
)
from tests.samples import NO_BUNCHES, NO_NUMBERS, Row, is_plain, unchanged


def all_systems():
    return some_systems() + odd_systems() + small_systems()[::9]


class Made(unittest.TestCase):

    def assert_undefined(self, system, keys, lock):
        with self.assertRaises(Undefined) as caught:
            made_of(system, keys, lock)
        self.assertIs(type(caught.exception), Undefined)
        self.assertEqual(caught.exception.what, "made")

    def test_by_hand(self):
        system = System(TWO, 2, TWO_CUTS)
        self.assertEqual(made_of(system, (0,), 0), (0, 0))
        self.assertEqual(made_of(system, (1,), 0), (0, 1))
        self.assert_undefined(system, (2,), 0)
        self.assert_undefined(system, (1,), 1)
        self.assertEqual(made_of(system, (2,), 1), (1, 0))
        # Of keys 1 and 2 the master's cut can be made.
        self.assertEqual(made_of(system, (1, 2), 0), (0, 0))
        self.assertEqual(made_of(system, (1, 2), 1), (0, 0))
        self.assertEqual(made_of(system, (0, 1, 2), 1), (0, 0))

    def test_the_first_of_many(self):
        # The stacks of the lock are (1, 3) and (0, 2), and of keys 2 and 3 both depths of both can be taken.
        system = System(Table(4, ((0, 1),)), 4, ((3, 0), (1, 2), (0, 2), (3, 1)))
        self.assertEqual(made_of(system, (2, 3), 0), (3, 2))
        self.assertEqual(made_of(system, (0, 1), 0), (1, 0))
        self.assertEqual(made_of(system, (1, 2, 3), 0), (1, 2))
        self.assertEqual(made_of(system, (0, 3), 0), (3, 0))
        self.assert_undefined(system, (2,), 0)
        self.assert_undefined(system, (3,), 0)

    def test_the_ends_of_sizes(self):
        self.assertEqual(made_of(System(ONE, 2, ((1,),)), (0,), 0), (1,))
        self.assertEqual(made_of(System(ONE, 4, ((3, 0, 1, 2, 3),)), (0,), 0), (3, 0, 1, 2, 3))
        system = System(APART, 2, APART_CUTS)
        for keys, lock, told in (
            ((1, 2), 0, None), ((1, 2), 4, (1, 1, 1)), ((1, 2, 3), 0, (0, 0, 0)), ((0, 4), 2, (1, 0, 1)),
            ((0, 1, 2, 3, 4), 3, (1, 1, 0)), ((3,), 3, (1, 1, 0)), ((2,), 3, None), ((0, 4), 0, (0, 0, 0)),
        ):
            if told is None:
                self.assert_undefined(system, keys, lock)
            else:
                self.assertEqual(made_of(system, keys, lock), told)
        system = System(FULL, 2, ((0,), (1,), (0,), (1,), (0,)))
        self.assertEqual(made_of(system, (1, 3), 4), (1,))
        self.assertEqual(made_of(system, (0, 1, 2, 3, 4), 4), (0,))

    def test_the_first_cut_that_can_be_made_and_opens(self):
        for system in all_systems():
            before = unchanged(system)
            for lock in range(len(system.table.rows)):
                for keys in bunches(system):
                    wanted = first_made(system, keys, lock)
                    if wanted is None:
                        self.assert_undefined(system, keys, lock)
                    else:
                        cut = made_of(system, keys, lock)
                        self.assertTrue(is_plain(cut))
                        self.assertEqual(cut, wanted)
                        self.assertTrue(is_made(system, keys, cut))
                        self.assertIn(lock, opened(system, cut))
            self.assertEqual(unchanged(system), before)

    def test_five_chambers_of_four_depths(self):
        for system in large_systems():
            for keys in bunches(system)[::4]:
                wanted = first_made(system, keys, 0)
                if wanted is None:
                    self.assert_undefined(system, keys, 0)
                else:
                    self.assertEqual(made_of(system, keys, 0), wanted)

    def test_arguments(self):
        system = System(APART, 2, APART_CUTS)
        self.assertEqual(made_of(lock=4, keys=(1, 2), system=system), (1, 1, 1))
        self.assertEqual(made_of(system, lock=4, keys=(1, 2)), (1, 1, 1))
        keys = Row((1, 2))
        self.assertEqual(made_of(system, keys, 4), (1, 1, 1))
        self.assertEqual(keys, (1, 2))


class WhatMadeOfRefuses(unittest.TestCase):

    def assert_refused(self, error, value, system, keys, lock):
        before = unchanged(value)
        with self.assertRaises(error) as caught:
            made_of(system, keys, lock)
        self.assertIs(type(caught.exception), error)
        self.assertIs(caught.exception.value, value)
        self.assertEqual(unchanged(value), before)

    def test_what_is_no_bunch(self):
        system = System(Table(3, ((0,), (1,), (2,))), 3, ((0,), (1,), (2,)))
        for keys in NO_BUNCHES:
            self.assert_refused(InvalidKeys, keys, system, keys, 0)

    def test_what_is_no_lock(self):
        system = System(Table(3, ((0,), (1,), (2,))), 3, ((0,), (1,), (2,)))
        for lock in NO_NUMBERS:
            self.assert_refused(InvalidNumber, lock, system, (0, 1), lock)
            self.assert_refused(InvalidNumber, lock, system, (0,), lock)

    def test_ends(self):
        for system in some_systems():
            many, locks = system.table.many, len(system.table.rows)
            for keys in ((many,), (0, many), tuple(range(many + 1)), (-1,), (-1, 0), tuple(range(-1, many)), ()):
                self.assert_refused(InvalidKeys, keys, system, keys, 0)
            for lock in (locks, -1, locks + 1):
                self.assert_refused(InvalidNumber, lock, system, (0,), lock)
                self.assert_refused(InvalidNumber, lock, system, tuple(range(many)), lock)

    def test_their_order(self):
        system = System(Table(3, ((0,), (1,), (2,))), 3, ((0,), (1,), (2,)))
        for keys in ((), (1, 0), (0, 0), (3,), [0], None, True, (True,), 0):
            for lock in (0, 3, True, None, "0", [0]):
                self.assert_refused(InvalidKeys, keys, system, keys, lock)
        # There is no such cut either, but what is no lock is told first.
        for lock in (3, -1, True, False, None, "0", [0], (0,)):
            self.assert_refused(InvalidNumber, lock, system, (1,), lock)


class Makers(unittest.TestCase):

    def test_by_hand(self):
        for system, told in (
            (System(ONE, 2, ((1,),)), ((),)),
            (System(FULL, 2, ((0,),) * 5), ((),) * 5),
            (System(TWO, 2, TWO_CUTS), ((), ())),
            (System(APART, 2, APART_CUTS), (
                ((1, 2, 3),), ((0, 2, 3), (0, 4)), ((0, 1, 3), (0, 4)), ((0, 1, 2), (0, 4)), ((1, 2), (1, 3), (2, 3)),
            )),
        ):
            self.assertEqual(tuple(makers(system, lock) for lock in range(len(system.table.rows))), told)

    def test_just_the_least_bunches(self):
        for system in all_systems():
            before = unchanged(system)
            for lock in range(len(system.table.rows)):
                told = makers(system, lock)
                self.assertTrue(is_plain(told))
                self.assertEqual(list(told), all_makers(system, lock))
                self.assertEqual(makers(system, lock), told)
            self.assertEqual(unchanged(system), before)

    def test_their_sizes(self):
        sizes = set()
        for system in all_systems() + large_systems():
            for lock in range(len(system.table.rows)):
                for keys in makers(system, lock):
                    sizes.add(len(keys))
                    self.assertLessEqual(2, len(keys))
                    self.assertLessEqual(len(keys), len(system.cuts[0]))
        self.assertLessEqual({2, 3}, sizes)

    def test_a_bunch_of_four_keys(self):
        # Each of the keys 1 to 4 has the lock's depth in a chamber of its own.
        cuts = ((0, 0, 0, 0),) + tuple(tuple(0 if at == own else 1 for at in range(4)) for own in range(4))
        self.assertEqual(makers(System(Table(5, ((0,),)), 2, cuts), 0), ((1, 2, 3, 4),))
        # And none of them in a fifth one.
        cuts = ((0,) * 5,) + tuple(tuple(0 if at == own else 1 for at in range(5)) for own in range(4))
        self.assertEqual(makers(System(Table(5, ((0,),)), 2, cuts), 0), ())

    def test_they_are_in_the_order_of_tuples(self):
        # The bunches (1, 2, 3) and (1, 4) can make the cut (0, 0, 0): the longer one comes first.
        system = System(Table(5, ((0,),)), 2, ((0, 0, 0), (0, 1, 1), (1, 0, 1), (1, 1, 0), (1, 0, 0)))
        self.assertEqual(makers(system, 0), ((1, 2, 3), (1, 4)))

    def test_of_a_bunch_a_cut_can_be_made_exactly_if_a_maker_lies_within_it(self):
        for system in some_systems()[::2]:
            for lock, row in enumerate(system.table.rows):
                told = makers(system, lock)
                for keys in bunches(system):
                    if not set(keys) & set(row):
                        able = any(set(least) <= set(keys) for least in told)
                        self.assertIs(first_made(system, keys, lock) is not None, able)

    def test_what_is_no_lock(self):
        system = System(Table(3, ((0,), (1,), (2,))), 3, ((0,), (1,), (2,)))
        for lock in NO_NUMBERS:
            before = unchanged(lock)
            with self.assertRaises(InvalidNumber) as caught:
                makers(system, lock)
            self.assertIs(type(caught.exception), InvalidNumber)
            self.assertIs(caught.exception.value, lock)
            self.assertEqual(unchanged(lock), before)

    def test_ends(self):
        for system in some_systems():
            for lock in (len(system.table.rows), -1, len(system.table.rows) + 1):
                with self.assertRaises(InvalidNumber) as caught:
                    makers(system, lock)
                self.assertIs(caught.exception.value, lock)

    def test_arguments_by_name(self):
        self.assertEqual(makers(lock=0, system=System(APART, 2, APART_CUTS)), ((1, 2, 3),))


if __name__ == "__main__":
    unittest.main()
