"""Tests of keys that are filed: [10], and promise (5)."""

import unittest

from chambercuts.errors import InvalidPair, Undefined
from chambercuts.filing import filed, threats
from chambercuts.partings import cuts_for, kept_out
from chambercuts.systems import System, opened
from chambercuts.tables import Table, outs
from tests.plainly import first_filed, is_filed
from tests.sample_systems import (
    APART, APART_CUTS, FULL, ONE, TWO, TWO_CUTS, deep_systems, large_systems, odd_systems, small_systems, some_systems,
)
from tests.samples import NO_NUMBERS, is_plain, unchanged


def all_systems():
    return some_systems() + odd_systems() + small_systems()[::5]


class Filed(unittest.TestCase):

    def assert_undefined(self, system, key, lock):
        with self.assertRaises(Undefined) as caught:
            filed(system, key, lock)
        self.assertIs(type(caught.exception), Undefined)
        self.assertEqual(caught.exception.what, "filed")

    def test_by_hand(self):
        system = System(TWO, 2, TWO_CUTS)
        # The cut (1, 0) cannot be filed to (0, 1), nor can (0, 1) to (1, 0).
        self.assert_undefined(system, 1, 1)
        self.assert_undefined(system, 2, 0)
        system = System(TWO, 2, ((1, 1), (1, 0), (0, 1)))
        self.assertEqual(filed(system, 1, 1), (1, 1))
        self.assertEqual(filed(system, 2, 0), (1, 1))

    def test_the_first_of_many(self):
        # The stacks of lock 0 are (1, 3) and (0, 2), the key 2 has (1, 1): of (1, 2) and (3, 2) the first.
        system = System(Table(3, ((0, 1),)), 4, ((3, 0), (1, 2), (1, 1)))
        self.assertEqual(filed(system, 2, 0), (1, 2))
        # A chamber in which the key lies between the depths of the stack, and one where it is as deep as one.
        system = System(Table(3, ((0, 1),)), 4, ((0, 0), (3, 3), (2, 3)))
        self.assertEqual(filed(system, 2, 0), (3, 3))
        system = System(Table(3, ((0, 1),)), 4, ((0, 0), (3, 2), (2, 3)))
        self.assert_undefined(system, 2, 0)

    def test_the_ends_of_sizes(self):
        system = System(Table(2, ((0,),)), 2, ((1,), (0,)))
        self.assertEqual(filed(system, 1, 0), (1,))
        self.assert_undefined(System(Table(2, ((0,),)), 2, ((0,), (1,))), 1, 0)
        system = System(Table(2, ((0,),)), 4, ((3, 2, 1, 0, 3), (0, 0, 0, 0, 0)))
        self.assertEqual(filed(system, 1, 0), (3, 2, 1, 0, 3))
        self.assert_undefined(System(Table(2, ((0,),)), 4, ((3, 2, 1, 0, 3), (0, 0, 0, 1, 0))), 1, 0)
        system = System(APART, 2, APART_CUTS)
        self.assertEqual(filed(system, 0, 4), (1, 1, 1))
        self.assertEqual(filed(system, 0, 1), (0, 1, 1))
        self.assert_undefined(system, 4, 0)

    def test_the_first_cut_that_is_filed_and_opens(self):
        for system in all_systems():
            before = unchanged(system)
            for key, lock in outs(system.table):
                wanted = first_filed(system, key, lock)
                if wanted is None:
                    self.assert_undefined(system, key, lock)
                else:
                    cut = filed(system, key, lock)
                    self.assertTrue(is_plain(cut))
                    self.assertEqual(cut, wanted)
                    self.assertEqual(filed(system, key, lock), cut)
                    self.assertTrue(is_filed(system, key, cut))
                    self.assertIn(lock, opened(system, cut))
            self.assertEqual(unchanged(system), before)

    def test_there_is_none_exactly_if_a_chamber_bars_the_pair(self):
        for system in all_systems() + large_systems():
            for key, lock in outs(system.table):
                barred = any(
                    all(system.cuts[key][at] > system.cuts[other][at] for other in system.table.rows[lock])
                    for at in range(len(system.cuts[0]))
                )
                if barred:
                    self.assert_undefined(system, key, lock)
                else:
                    self.assertIn(lock, opened(system, filed(system, key, lock)))

    def test_arguments_by_name(self):
        self.assertEqual(filed(lock=4, key=0, system=System(APART, 2, APART_CUTS)), (1, 1, 1))
        self.assertEqual(filed(System(APART, 2, APART_CUTS), lock=4, key=0), (1, 1, 1))


class WhatIsNoPair(unittest.TestCase):

    def assert_refused(self, system, key, lock):
        before = unchanged(key), unchanged(lock)
        with self.assertRaises(InvalidPair) as caught:
            filed(system, key, lock)
        self.assertIs(type(caught.exception), InvalidPair)
        value = caught.exception.value
        self.assertIs(type(value), tuple)
        self.assertEqual(len(value), 2)
        self.assertIs(value[0], key)
        self.assertIs(value[1], lock)
        self.assertEqual((unchanged(key), unchanged(lock)), before)

    def test_pairs_of_a_key_that_opens_the_lock(self):
        for system in some_systems():
            for lock, row in enumerate(system.table.rows):
                for key in row:
                    self.assert_refused(system, key, lock)

    def test_keys_that_are_not_there(self):
        system = System(Table(3, ((0,), (1,), (2,))), 4, ((3,), (2,), (1,)))
        self.assertEqual(filed(system, 1, 0), (3,))
        for key in NO_NUMBERS:
            for lock in (0, 1, 2):
                self.assert_refused(system, key, lock)
        for lock in NO_NUMBERS:
            for key in (0, 1, 2):
                self.assert_refused(system, key, lock)

    def test_neither_is_there(self):
        system = System(Table(3, ((0,), (1,), (2,))), 4, ((3,), (2,), (1,)))
        for value in NO_NUMBERS:
            self.assert_refused(system, value, value)

    def test_bools_are_no_keys_or_locks(self):
        system = System(Table(2, ((0,), (1,))), 2, ((0,), (1,)))
        self.assertEqual(filed(system, 0, 1), (1,))
        for key, lock in ((False, 1), (0, True), (False, True), (True, False), (True, 0), (1, False)):
            self.assert_refused(system, key, lock)

    def test_ends(self):
        for system in some_systems():
            many, locks = system.table.many, len(system.table.rows)
            for key, lock in ((many, 0), (0, locks), (-1, 0), (0, -1), (many, locks), (-1, -1), (many + 1, 0)):
                self.assert_refused(system, key, lock)

    def test_a_system_without_outs(self):
        for system in (System(ONE, 2, ((0,),)), System(FULL, 2, ((0,),) * 5)):
            for key in range(-1, 6):
                for lock in range(-1, 6):
                    self.assert_refused(system, key, lock)


class Threats(unittest.TestCase):

    def test_by_hand(self):
        for system, told in (
            (System(ONE, 2, ((1,),)), ()),
            (System(FULL, 4, ((0, 1, 2, 3, 0),) * 5), ()),
            (System(TWO, 2, TWO_CUTS), ()),
            (System(TWO, 2, ((1, 1), (1, 0), (0, 1))), ((1, 1), (2, 0))),
            (System(Table(2, ((0,), (1,))), 2, ((0,), (1,))), ((0, 1),)),
            (System(Table(2, ((0,), (1,))), 2, ((1,), (0,))), ((1, 0),)),
            (System(APART, 2, APART_CUTS), ((0, 1), (0, 2), (0, 3), (0, 4), (1, 4), (2, 4), (3, 4))),
            (System(Table(2, ((0,),) * 5), 2, ((1,), (0,))), ((1, 0), (1, 1), (1, 2), (1, 3), (1, 4))),
        ):
            self.assertEqual(threats(system), told)

    def test_just_the_pairs_for_which_there_is_a_filed_cut(self):
        for system in all_systems():
            before = unchanged(system)
            told = threats(system)
            self.assertTrue(is_plain(told))
            self.assertEqual(
                told, tuple(pair for pair in outs(system.table) if first_filed(system, *pair) is not None)
            )
            for pair in outs(system.table):
                if pair in told:
                    self.assertIn(pair[1], opened(system, filed(system, *pair)))
                else:
                    with self.assertRaises(Undefined):
                        filed(system, *pair)
            self.assertEqual(threats(system), told)
            self.assertEqual(unchanged(system), before)

    def test_deep_cuts_have_none(self):
        systems = deep_systems()
        self.assertGreater(len([system for system in systems if outs(system.table)]), 50)
        for system in systems:
            self.assertEqual(threats(system), ())
            for key, lock in outs(system.table):
                with self.assertRaises(Undefined):
                    filed(system, key, lock)

    def test_cuts_without_threats_are_deep(self):
        for system in odd_systems():
            kept = set()
            for at in range(len(system.cuts[0])):
                kept |= set(kept_out(system.table, tuple(cut[at] for cut in system.cuts), "deep"))
            self.assertEqual(threats(system), tuple(pair for pair in outs(system.table) if pair not in kept))

    def test_five_chambers_of_four_depths(self):
        for system in large_systems():
            self.assertTrue(is_plain(threats(system)))
        table = Table(5, ((0, 1), (0, 2), (0, 3), (0, 4), (1, 2, 3)))
        self.assertEqual(threats(System(table, 4, cuts_for(table, 4, 5, "deep"))), ())

    def test_the_argument_by_name(self):
        self.assertEqual(threats(system=System(TWO, 2, TWO_CUTS)), ())

    def test_systems_that_are_asked_by_turns(self):
        systems = some_systems()
        told = [threats(system) for system in systems]
        self.assertEqual([threats(system) for system in reversed(systems)], list(reversed(told)))


if __name__ == "__main__":
    unittest.main()
