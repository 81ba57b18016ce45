"""Tests of locks and keys that come later: [12], and promise (7)."""

import unittest
from itertools import product

from chambercuts.cuts import falls, fits, least_stacks
from chambercuts.errors import InvalidCut, InvalidKeys, InvalidLocks, Undefined
from chambercuts.later import key_cuts, lock_fits, with_key, with_lock
from chambercuts.systems import System, opened
from chambercuts.tables import Table
from tests.plainly import all_cuts, all_key_cuts, all_locks, all_rows, bunches, cuts_of, do_fit
from tests.sample_systems import (
    APART, APART_CUTS, FULL, ONE, TWO, TWO_CUTS, large_systems, odd_systems, small_systems, some_systems,
)
from tests.samples import EVERYTHING, NO_BUNCHES, NO_LOCKS, Row, is_plain, unchanged

THREE = Table(3, ((0,), (1,), (2,)))


def all_systems():
    return some_systems() + odd_systems() + small_systems()[::9]


def three():
    return System(THREE, 3, ((0,), (1,), (2,)))


class Refusing(unittest.TestCase):

    def assert_refused(self, error, value, call, *arguments):
        before = unchanged(value)
        with self.assertRaises(error) as caught:
            call(*arguments)
        self.assertIs(type(caught.exception), error)
        self.assertIs(caught.exception.value, value)
        self.assertEqual(unchanged(value), before)

    def assert_undefined(self, what, call, *arguments):
        with self.assertRaises(Undefined) as caught:
            call(*arguments)
        self.assertIs(type(caught.exception), Undefined)
        self.assertEqual(caught.exception.what, what)


class ALockMore(Refusing):

    def test_by_hand(self):
        system = System(TWO, 2, TWO_CUTS)
        for keys, told in (
            ((0,), True), ((1,), True), ((2,), True), ((0, 1), True), ((0, 2), True), ((1, 2), False),
            ((0, 1, 2), True),
        ):
            self.assertIs(lock_fits(system, keys), told)
        system = System(APART, 2, APART_CUTS)
        for keys, told in (
            ((0,), True), ((4,), True), ((1, 2), False), ((0, 1), True), ((0, 4), False), ((0, 1, 2, 3), False),
            ((0, 1, 2, 3, 4), True), ((1, 2, 3), False), ((3, 4), True),
        ):
            self.assertIs(lock_fits(system, keys), told)
        self.assertIs(lock_fits(System(ONE, 4, ((3, 0, 1, 2, 3),)), (0,)), True)
        # Keys that are cut alike can only be let together.
        system = System(Table(2, ((0, 1),)), 2, ((0,), (0,)))
        for keys, told in (((0,), False), ((1,), False), ((0, 1), True)):
            self.assertIs(lock_fits(system, keys), told)

    def test_whether_no_other_key_falls_into_their_stacks(self):
        for system in all_systems() + large_systems():
            before = unchanged(system)
            for keys in bunches(system):
                stacks = least_stacks(system.cuts, keys)
                others = [cut for key, cut in enumerate(system.cuts) if key not in keys]
                told = lock_fits(system, keys)
                self.assertIs(told, not any(falls(cut, stacks) for cut in others))
                self.assertIs(told, do_fit(system.table.rows + (keys,), system.cuts))
            self.assertEqual(unchanged(system), before)

    def test_the_system_with_it(self):
        for system in all_systems():
            before = unchanged(system)
            table = system.table
            for keys in bunches(system):
                if len(table.rows) < 5 and lock_fits(system, keys):
                    wanted = System(Table(table.many, table.rows + (keys,)), system.depths, system.cuts)
                    told = with_lock(system, keys)
                    self.assertIs(type(told), System)
                    self.assertEqual(told, wanted)
                    self.assertEqual(unchanged(told), unchanged(wanted))
                    self.assertEqual(told.table.rows[-1], keys)
                    self.assertEqual(with_lock(system, keys), told)
                    for cut in cuts_of(system)[:64]:
                        self.assertEqual(opened(told, cut)[:len(opened(system, cut))], opened(system, cut))
                else:
                    self.assert_undefined("lock", with_lock, system, keys)
            self.assertEqual(unchanged(system), before)

    def test_a_lock_fits_exactly_if_the_system_with_it_is_one(self):
        for system in small_systems()[::3]:
            for keys in bunches(system):
                table = Table(3, system.table.rows + (keys,))
                self.assertIs(lock_fits(system, keys), fits(table, system.depths, system.cuts))

    def test_five_locks_are_the_most(self):
        system = System(Table(3, ((0,),) * 4), 3, ((0,), (1,), (2,)))
        full = with_lock(system, (0, 1, 2))
        self.assertEqual(full.table.rows, ((0,), (0,), (0,), (0,), (0, 1, 2)))
        for keys in all_rows(3):
            self.assertIs(lock_fits(full, keys), True)
            self.assert_undefined("lock", with_lock, full, keys)
        self.assertIs(lock_fits(System(FULL, 2, ((0,),) * 5), (0,)), False)
        self.assert_undefined("lock", with_lock, System(FULL, 2, ((0,),) * 5), (0,))
        self.assertIs(lock_fits(System(FULL, 2, ((0,),) * 5), (0, 1, 2, 3, 4)), True)
        self.assert_undefined("lock", with_lock, System(FULL, 2, ((0,),) * 5), (0, 1, 2, 3, 4))

    def test_a_row_may_be_there_twice(self):
        system = System(TWO, 2, TWO_CUTS)
        self.assertEqual(with_lock(system, (0, 1)).table.rows, ((0, 1), (0, 2), (0, 1)))

    def test_from_one_lock_to_five(self):
        system = System(Table(5, ((0,),)), 2, APART_CUTS)
        for key in range(1, 5):
            system = with_lock(system, (key,))
        self.assertEqual(system, System(APART, 2, APART_CUTS))

    def test_what_is_no_bunch(self):
        for keys in NO_BUNCHES:
            self.assert_refused(InvalidKeys, keys, lock_fits, three(), keys)
            self.assert_refused(InvalidKeys, keys, with_lock, three(), keys)

    def test_what_is_no_bunch_is_told_first_at_five_locks(self):
        full = System(Table(3, ((0,),) * 5), 3, ((0,), (1,), (2,)))
        for keys in ((), (0, 0), (1, 0), (3,), [0], (True,), None):
            self.assert_refused(InvalidKeys, keys, with_lock, full, keys)

    def test_ends(self):
        for system in some_systems():
            many = system.table.many
            for keys in ((many,), (0, many), tuple(range(many + 1)), (-1,), (-1, 0), tuple(range(-1, many)), ()):
                self.assert_refused(InvalidKeys, keys, lock_fits, system, keys)
                self.assert_refused(InvalidKeys, keys, with_lock, system, keys)

    def test_arguments(self):
        system = System(TWO, 2, TWO_CUTS)
        self.assertIs(lock_fits(keys=(1, 2), system=system), False)
        self.assertEqual(with_lock(keys=(2,), system=system).table.rows, ((0, 1), (0, 2), (2,)))
        keys = Row((0, 2))
        self.assertIs(lock_fits(system, keys), True)
        self.assertTrue(is_plain(with_lock(system, keys).table.rows))
        self.assertIs(type(keys), Row)


class CutsForAKeyMore(Refusing):

    def test_by_hand(self):
        system = System(TWO, 2, TWO_CUTS)
        for locks, told in (
            ((), ((1, 1),)),
            # The key has a cut that opens the lock, and that no other key falls in by.
            ((0,), ((0, 1),)),
            ((1,), ((1, 0),)),
            ((0, 1), ((0, 0),)),
        ):
            self.assertEqual(key_cuts(system, locks), told)
        system = System(ONE, 2, ((0,),))
        self.assertEqual(key_cuts(system, ()), ((1,),))
        self.assertEqual(key_cuts(system, (0,)), ((0,), (1,)))
        system = System(Table(2, ((0,),)), 4, ((0,), (2,)))
        self.assertEqual(key_cuts(system, ()), ((1,), (2,), (3,)))
        self.assertEqual(key_cuts(system, (0,)), ((0,), (1,), (3,)))
        # No cut is left for a key that opens nothing.
        system = System(FULL, 2, ((0,), (1,), (0,), (1,), (0,)))
        self.assertEqual(key_cuts(system, ()), ())
        self.assertEqual(key_cuts(system, (0, 1, 2, 3)), ())
        self.assertEqual(key_cuts(system, (0, 1, 2, 3, 4)), ((0,), (1,)))

    def test_also_where_there_are_five_keys(self):
        system = System(APART, 2, APART_CUTS)
        self.assertEqual(key_cuts(system, ()), ((0, 0, 1), (0, 1, 0), (1, 0, 0)))
        self.assertEqual(key_cuts(system, (0,)), ((0, 0, 0), (0, 0, 1), (0, 1, 0), (1, 0, 0)))
        self.assertEqual(key_cuts(system, (0, 1)), ((0, 0, 1), (0, 1, 0)))
        self.assertEqual(key_cuts(system, (0, 4)), ())
        self.assertEqual(key_cuts(system, (1,)), ((0, 0, 1), (0, 1, 0), (0, 1, 1)))
        self.assertEqual(key_cuts(system, (4,)), ((1, 1, 1),))

    def test_just_the_cuts_with_which_one_key_more_fits(self):
        for system in all_systems():
            before = unchanged(system)
            for locks in all_locks(system)[::1 if len(cuts_of(system)) < 64 else 3]:
                told = key_cuts(system, locks)
                self.assertTrue(is_plain(told))
                self.assertEqual(list(told), all_key_cuts(system, locks))
            self.assertEqual(unchanged(system), before)

    def test_five_chambers_of_four_depths(self):
        for system in large_systems():
            for locks in ((), tuple(range(len(system.table.rows)))):
                told = key_cuts(system, locks)
                self.assertTrue(is_plain(told))
                self.assertEqual(list(told), all_key_cuts(system, locks))
                self.assertEqual(key_cuts(system, locks), told)
        self.assertEqual(key_cuts(System(ONE, 4, ((3, 0, 1, 2, 3),)), (0,)), tuple(all_cuts(5, 4)))

    def test_what_are_no_locks(self):
        for locks in NO_LOCKS:
            self.assert_refused(InvalidLocks, locks, key_cuts, three(), locks)

    def test_ends(self):
        for system in some_systems():
            many = len(system.table.rows)
            for locks in ((many,), (0, many), tuple(range(many + 1)), (-1,), (-1, 0), tuple(range(-1, many))):
                self.assert_refused(InvalidLocks, locks, key_cuts, system, locks)

    def test_arguments(self):
        system = System(TWO, 2, TWO_CUTS)
        self.assertEqual(key_cuts(locks=(0, 1), system=system), ((0, 0),))
        self.assertEqual(key_cuts(system, locks=Row((0, 1))), ((0, 0),))


class AKeyMore(Refusing):

    def test_by_hand(self):
        system = System(TWO, 2, TWO_CUTS)
        for locks, cut, rows in (
            ((), (1, 1), ((0, 1), (0, 2))), ((0,), (0, 1), ((0, 1, 3), (0, 2))),
            ((1,), (1, 0), ((0, 1), (0, 2, 3))), ((0, 1), (0, 0), ((0, 1, 3), (0, 2, 3))),
        ):
            self.assertEqual(with_key(system, locks, cut), System(Table(4, rows), 2, TWO_CUTS + (cut,)))
        for locks, cut in (((), (0, 1)), ((0,), (1, 1)), ((0,), (0, 0)), ((0, 1), (1, 1)), ((1,), (0, 1))):
            self.assert_undefined("key", with_key, system, locks, cut)

    def test_just_with_the_cuts_that_are_told(self):
        for system in some_systems() + odd_systems()[::4]:
            before = unchanged(system)
            key = system.table.many
            for locks in all_locks(system)[::3]:
                told = all_key_cuts(system, locks)
                for cut in cuts_of(system)[::1 if len(cuts_of(system)) < 64 else 5]:
                    if key == 5 or cut not in told:
                        self.assert_undefined("key", with_key, system, locks, cut)
                    else:
                        rows = tuple(
                            row + (key,) if lock in locks else row for lock, row in enumerate(system.table.rows)
                        )
                        wanted = System(Table(key + 1, rows), system.depths, system.cuts + (cut,))
                        new = with_key(system, locks, cut)
                        self.assertIs(type(new), System)
                        self.assertEqual(unchanged(new), unchanged(wanted))
                        self.assertEqual(opened(new, cut), locks)
            self.assertEqual(unchanged(system), before)

    def test_five_keys_are_the_most(self):
        system = System(Table(4, APART.rows[:4]), 2, APART_CUTS[:4])
        full = with_key(system, (), (1, 1, 1))
        self.assertEqual(full, System(Table(5, APART.rows[:4]), 2, APART_CUTS))
        for locks, cut in product(((), (0,), (0, 1, 2, 3)), all_cuts(3, 2)):
            self.assert_undefined("key", with_key, full, locks, cut)
        self.assertIn((0, 0, 1), key_cuts(full, ()))

    def test_from_one_key_to_five(self):
        system = System(ONE, 2, APART_CUTS[:1])
        for key in range(1, 5):
            system = with_lock(with_key(system, (), APART_CUTS[key]), (key,))
        self.assertEqual(system, System(APART, 2, APART_CUTS))

    def test_what_are_no_locks(self):
        for locks in NO_LOCKS:
            for cut in ((0,), (3,), None):
                self.assert_refused(InvalidLocks, locks, with_key, three(), locks, cut)

    def test_what_is_no_cut(self):
        system = System(TWO, 2, TWO_CUTS)
        for cut in EVERYTHING + (
            (0, 0, 0), (0,), (), [0, 0], (0, 2), (2, 0), (0, -1), (-1, 0), (0, True), (False, 0), (True, True),
            (0, "0"), (0, None), ((0, 0),), (0, [0]), "00", (0, 10 ** 12 - 1), TWO, system, (0, system), (0,) * 6,
        ):
            if unchanged(cut) != unchanged((0, 1)):
                for locks in ((), (0,), (0, 1)):
                    self.assert_refused(InvalidCut, cut, with_key, system, locks, cut)

    def test_their_order(self):
        full = System(APART, 2, APART_CUTS)
        for locks in ((5,), (1, 0), (0, 0), [0], None, (True,), 0):
            for cut in ((0, 0), None, (0, 0, 2), (0, 0, True), (0, 0, 0)):
                self.assert_refused(InvalidLocks, locks, with_key, full, locks, cut)
        # No cut can be had with five keys, but what is no cut is told first.
        for cut in ((0, 0), None, (0, 0, 2), (0, 0, True), [0, 0, 1], 0):
            self.assert_refused(InvalidCut, cut, with_key, full, (), cut)

    def test_arguments(self):
        system = System(TWO, 2, TWO_CUTS)
        new = with_key(cut=(0, 0), locks=(0, 1), system=system)
        self.assertEqual(new.table.rows, ((0, 1, 3), (0, 2, 3)))
        cut = Row((0, 0))
        new = with_key(system, Row((0, 1)), cut)
        self.assertTrue(is_plain(new.cuts))
        self.assertTrue(is_plain(new.table.rows))
        self.assertIs(type(cut), Row)


class SystemsByTurns(unittest.TestCase):

    def test_each_answers_its_own(self):
        systems = some_systems()
        told = [(key_cuts(system, (0,)), lock_fits(system, (0,))) for system in systems]
        again = [(key_cuts(system, (0,)), lock_fits(system, (0,))) for system in reversed(systems)]
        self.assertEqual(again, list(reversed(told)))


if __name__ == "__main__":
    unittest.main()
