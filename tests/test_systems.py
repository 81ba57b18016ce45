"""Tests of systems: [9], and promises (1) and (4)."""

import unittest
from itertools import product

from chambercuts.cuts import are_cuts, falls, fits, least_stacks
from chambercuts.errors import InvalidCut, InvalidCuts, InvalidNumber, InvalidTable
from chambercuts.systems import System, ghosts, opened
from chambercuts.tables import Table, outs
from tests.plainly import all_cuts, all_rows, plainly_opened
from tests.sample_systems import APART, APART_CUTS, FULL, ONE, TWO, TWO_CUTS, small_systems, some_systems
from tests.samples import EVERYTHING, NEITHER, Row, is_plain, unchanged


class SystemsThatAreLet(unittest.TestCase):

    def test_it_keeps_all_three(self):
        for table, depths, cuts in (
            (ONE, 2, ((0,),)), (ONE, 4, ((3, 2, 1, 0, 3),)), (TWO, 2, TWO_CUTS), (TWO, 4, TWO_CUTS),
            (APART, 2, APART_CUTS), (FULL, 2, ((0,), (1,), (0,), (1,), (0,))), (FULL, 3, ((2,) * 5,) * 5),
            (Table(5, ((0,),) * 5), 2, ((0,), (1,), (1,), (1,), (1,))),
        ):
            before = unchanged(cuts)
            system = System(table, depths, cuts)
            self.assertIs(system.table, table)
            self.assertEqual(system.depths, depths)
            self.assertEqual(system.cuts, cuts)
            self.assertIs(type(system.depths), int)
            self.assertTrue(is_plain(system.cuts))
            self.assertEqual(unchanged(cuts), before)

    def test_cuts_become_plain_tuples(self):
        given = Row((Row((0, 0)), (0, 1), Row((1, 0))))
        system = System(TWO, 2, given)
        self.assertTrue(is_plain(system.cuts))
        self.assertEqual(system.cuts, TWO_CUTS)
        self.assertIs(type(given[0]), Row)

    def test_it_is_just_the_cuts_that_fit(self):
        for rows in product(all_rows(3), repeat=2):
            table = Table(3, rows)
            for cuts in product(all_cuts(2, 2), repeat=3):
                if fits(table, 2, cuts):
                    self.assertEqual(System(table, 2, cuts).cuts, cuts)
                else:
                    with self.assertRaises(InvalidCuts):
                        System(table, 2, cuts)

    def test_the_cuts_that_are_returned_make_systems(self):
        for system in some_systems():
            self.assertTrue(fits(system.table, system.depths, system.cuts))

    def test_arguments_by_name(self):
        system = System(cuts=TWO_CUTS, depths=2, table=TWO)
        self.assertEqual(system, System(TWO, 2, cuts=TWO_CUTS))


class WhatIsNoSystem(unittest.TestCase):

    def assert_refused(self, error, value, table, depths, cuts):
        before = unchanged(value)
        with self.assertRaises(error) as caught:
            System(table, depths, cuts)
        self.assertIs(type(caught.exception), error)
        self.assertIs(caught.exception.value, value)
        self.assertEqual(unchanged(value), before)

    def test_other_tables(self):
        for table in [value for value in EVERYTHING if not isinstance(value, Table)] + [
            (3, TWO.rows), TWO.rows, System(TWO, 2, TWO_CUTS), [TWO], (TWO,), "Table",
        ]:
            self.assert_refused(InvalidTable, table, table, 2, TWO_CUTS)

    def test_other_numbers_of_depths(self):
        for depths in NEITHER + (0, 1, 5, 6, -1, -2, 10 ** 12 - 1, -(10 ** 12 - 1)):
            self.assert_refused(InvalidNumber, depths, TWO, depths, TWO_CUTS)

    def test_what_are_no_cuts(self):
        for cuts in EVERYTHING + (
            TWO_CUTS[:2], TWO_CUTS + ((1, 1),), list(TWO_CUTS), tuple(list(cut) for cut in TWO_CUTS),
            TWO_CUTS[:2] + ((1,),), TWO_CUTS[:2] + ((1, 0, 0),), ((0, 0), (0, True), (1, 0)),
            ((0, False), (0, 1), (1, 0)), TWO_CUTS[:2] + ((2, 0),), TWO_CUTS[:2] + ((-1, 0),), ((),) * 3,
            ((0,) * 6, (0,) * 5 + (1,), (1,) + (0,) * 5), TWO, System(TWO, 2, TWO_CUTS), TWO_CUTS[:2] + ([1, 0],),
        ):
            self.assert_refused(InvalidCuts, cuts, TWO, 2, cuts)

    def test_cuts_that_do_not_fit(self):
        for table, cuts in (
            (TWO, ((0, 0), (0, 0), (1, 0))), (TWO, ((0, 0), (1, 1), (1, 0))), (TWO, ((0,), (0,), (1,))),
            (Table(2, ((0,),)), ((0,), (0,))), (Table(2, ((0,), (1,))), ((1, 1, 1, 1, 1), (1, 1, 1, 1, 1))),
            (APART, APART_CUTS[:4] + APART_CUTS[:1]), (Table(5, ((0,),)), APART_CUTS[:4] + APART_CUTS[:1]),
        ):
            self.assert_refused(InvalidCuts, cuts, table, 2, cuts)

    def test_their_order(self):
        for table in (None, True, (3, TWO.rows), [TWO], 3, "table"):
            for depths in (2, 1, True, None, "2", [2]):
                for cuts in (TWO_CUTS, ((0, 0),) * 3, None, [], 7):
                    self.assert_refused(InvalidTable, table, table, depths, cuts)
        for depths in (0, 1, 5, True, None, "2", [2], 10 ** 12 - 1):
            for cuts in (TWO_CUTS, ((0, 0),) * 3, None, [], 7):
                self.assert_refused(InvalidNumber, depths, TWO, depths, cuts)


class Equality(unittest.TestCase):

    def test_systems_are_equal_if_all_three_are(self):
        for system in some_systems():
            table = Table(system.table.many, tuple(tuple(row) for row in system.table.rows))
            other = System(table, system.depths, tuple(tuple(list(cut)) for cut in system.cuts))
            self.assertIs(system == other, True)
            self.assertIs(system != other, False)

    def test_systems_that_differ_in_one(self):
        system = System(TWO, 2, TWO_CUTS)
        for other in (
            System(Table(3, ((0, 1),)), 2, TWO_CUTS), System(Table(3, ((0, 2), (0, 1))), 2, TWO_CUTS),
            System(TWO, 3, TWO_CUTS), System(TWO, 4, TWO_CUTS), System(TWO, 2, ((0, 0), (1, 0), (0, 1))),
            System(TWO, 2, ((1, 1), (1, 0), (0, 1))), System(TWO, 2, ((0, 0, 0), (0, 1, 0), (1, 0, 0))),
        ):
            self.assertIs(system == other, False)
            self.assertIs(other == system, False)
            self.assertIs(system != other, True)

    def test_all_pairs_of_some_systems(self):
        systems = some_systems()[::3]
        for one in systems:
            for other in systems:
                same = (
                    one.table.many == other.table.many and one.table.rows == other.table.rows
                    and one.depths == other.depths and one.cuts == other.cuts
                )
                self.assertIs(one == other, same)

    def test_what_is_no_system_is_not_equal(self):
        class Other:
            table = TWO
            depths = 2
            cuts = TWO_CUTS

        system = System(TWO, 2, TWO_CUTS)
        for other in (TWO, TWO_CUTS, 2, (TWO, 2, TWO_CUTS), [system], (system,), None, True, "System", Other()):
            self.assertIs(system == other, False)
            self.assertIs(other == system, False)
            self.assertIs(system != other, True)

    def test_systems_are_not_iterable(self):
        system = System(TWO, 2, TWO_CUTS)
        for look in (iter, list, tuple):
            with self.assertRaises(TypeError):
                look(system)


class Opened(unittest.TestCase):

    def test_by_hand(self):
        system = System(TWO, 2, TWO_CUTS)
        for cut, told in (((0, 0), (0, 1)), ((0, 1), (0,)), ((1, 0), (1,)), ((1, 1), ())):
            self.assertEqual(opened(system, cut), told)
        # A cut of depths that no key has opens nothing.
        self.assertEqual(opened(System(TWO, 4, TWO_CUTS), (3, 0)), ())
        self.assertEqual(opened(System(FULL, 2, ((0,),) * 5), (0,)), (0, 1, 2, 3, 4))
        self.assertEqual(opened(System(FULL, 2, ((0,),) * 5), (1,)), ())
        self.assertEqual(opened(System(ONE, 4, ((3, 0, 1, 2, 3),)), (3, 0, 1, 2, 3)), (0,))
        self.assertEqual(opened(System(ONE, 4, ((3, 0, 1, 2, 3),)), (3, 0, 1, 2, 2)), ())

    def test_just_the_locks_into_whose_stacks_the_cut_falls(self):
        for system in some_systems():
            before = unchanged(system)
            stacks = [least_stacks(system.cuts, row) for row in system.table.rows]
            for cut in all_cuts(len(system.cuts[0]), system.depths):
                told = opened(system, cut)
                self.assertTrue(is_plain(told))
                self.assertEqual(told, plainly_opened(system, cut))
                self.assertEqual(told, tuple(lock for lock in range(len(stacks)) if falls(cut, stacks[lock])))
            self.assertEqual(unchanged(system), before)

    def test_keys_open_just_what_the_table_tells(self):
        for system in some_systems() + small_systems():
            for key, cut in enumerate(system.cuts):
                told = tuple(lock for lock, row in enumerate(system.table.rows) if key in row)
                self.assertEqual(opened(system, cut), told)
                for lock in told:
                    self.assertNotIn((key, lock), outs(system.table))

    def test_other_cuts(self):
        system = System(TWO, 2, TWO_CUTS)
        for cut in EVERYTHING + (
            (0, 0, 0), (0,), (), [0, 0], (0, 2), (2, 0), (0, -1), (-1, 0), (0, True), (False, 0), (True, True),
            (0, "0"), (0, None), ((0, 0),), (0, [0]), "00", (0, 10 ** 12 - 1), TWO, system, (system, 0), (0, system),
            (0,) * 6, (0,) * 30000,
        ):
            if unchanged(cut) == unchanged((0, 1)):
                continue
            before = unchanged(cut)
            with self.assertRaises(InvalidCut) as caught:
                opened(system, cut)
            self.assertIs(type(caught.exception), InvalidCut)
            self.assertIs(caught.exception.value, cut)
            self.assertEqual(unchanged(cut), before)

    def test_as_many_chambers_and_depths_as_the_system_has(self):
        for k, depths in product(range(1, 6), (2, 3, 4)):
            system = System(ONE, depths, ((0,) * k,))
            for length in range(8):
                for depth in range(-1, 6):
                    cut = (depth,) * length
                    if length == k and 0 <= depth < depths:
                        self.assertEqual(opened(system, cut), (0,) if depth == 0 else ())
                    else:
                        with self.assertRaises(InvalidCut) as caught:
                            opened(system, cut)
                        self.assertIs(caught.exception.value, cut)

    def test_arguments(self):
        system = System(TWO, 2, TWO_CUTS)
        self.assertEqual(opened(cut=(0, 0), system=system), (0, 1))
        self.assertEqual(opened(system, cut=Row((0, 1))), (0,))


class Ghosts(unittest.TestCase):

    def test_by_hand(self):
        for system, told in (
            (System(TWO, 2, TWO_CUTS), ()),
            (System(ONE, 4, ((3, 0, 1, 2, 3),)), ()),
            (System(FULL, 2, ((0,), (1,), (0,), (1,), (0,))), ()),
            (System(Table(2, ((0, 1),)), 2, ((0, 0), (1, 1))), (((0, 1), (0,)), ((1, 0), (0,)))),
            (System(Table(2, ((0, 1),) * 5), 3, ((0, 1), (2, 1))), ()),
            (System(Table(2, ((0, 1),) * 5), 3, ((0, 1), (2, 0))),
             (((0, 0), (0, 1, 2, 3, 4)), ((2, 1), (0, 1, 2, 3, 4)))),
            (System(Table(3, ((0, 1), (0, 2))), 3, ((0, 0), (1, 1), (2, 2))),
             (((0, 1), (0,)), ((0, 2), (1,)), ((1, 0), (0,)), ((2, 0), (1,)))),
            # A key in no row has its cut, but opens nothing: it is no ghost.
            (System(Table(2, ((0,),)), 2, ((0,), (1,))), ()),
        ):
            self.assertEqual(ghosts(system), told)

    def test_just_the_cuts_that_no_key_has_and_that_open_something(self):
        for system in some_systems() + small_systems():
            before = unchanged(system)
            told = ghosts(system)
            self.assertTrue(is_plain(told))
            wanted = []
            for cut in all_cuts(len(system.cuts[0]), system.depths):
                if cut not in system.cuts and plainly_opened(system, cut):
                    wanted.append((cut, plainly_opened(system, cut)))
            self.assertEqual(list(told), wanted)
            self.assertEqual(ghosts(system), told)
            self.assertEqual(unchanged(system), before)

    def test_five_chambers_of_four_depths(self):
        # Four keys of one lock, each of one depth throughout: all cuts but theirs are ghosts.
        cuts = tuple((depth,) * 5 for depth in range(4))
        told = ghosts(System(Table(4, ((0, 1, 2, 3),)), 4, cuts))
        self.assertEqual(told, tuple((cut, (0,)) for cut in all_cuts(5, 4) if cut not in cuts))
        self.assertEqual(len(told), 1020)

    def test_the_argument_by_name(self):
        self.assertEqual(ghosts(system=System(TWO, 2, TWO_CUTS)), ())


class WhatSystemsPromise(unittest.TestCase):

    def test_what_is_opened_can_be_seen_from_the_ghosts_and_the_keys(self):
        for system in some_systems():
            told = dict(ghosts(system))
            for cut in all_cuts(len(system.cuts[0]), system.depths):
                if cut in system.cuts:
                    key = system.cuts.index(cut)
                    locks = tuple(lock for lock, row in enumerate(system.table.rows) if key in row)
                else:
                    locks = told.get(cut, ())
                self.assertEqual(opened(system, cut), locks)

    def test_cuts_are_cuts_of_the_system(self):
        for system in some_systems():
            self.assertIs(are_cuts(system.table, system.depths, system.cuts), True)


if __name__ == "__main__":
    unittest.main()
