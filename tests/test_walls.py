"""Tests of walls: [8], and promise (2)."""

import unittest
from itertools import combinations, product

from chambercuts.errors import InvalidKind, InvalidNumber, Undefined
from chambercuts.partings import cuts_for, fewest
from chambercuts.tables import Table, outs
from chambercuts.walls import walls, walls_hold
from tests.plainly import are_walls, least_chambers
from tests.samples import EVERYTHING, NEITHER, Row, deep_tuple, is_plain, unchanged
from tests.test_partings import APART, FOUR, HARD, KINDS, OTHER_KINDS, OTHER_NUMBERS, TRIANGLE
from tests.test_partings import large_tables, small_tables

PAIR = Table(2, ((0,), (1,)))
# No parting of two depths keeps out all three outs, two partings not either, but three do.
TRIANGLE_WALLS = (
    (((0, 2), (1, 1), (2, 0)),),
    (((0, 2), (1, 1)), ((0, 2), (2, 0)), ((1, 1), (2, 0))),
    (((0, 2),), ((1, 1),), ((2, 0),)),
)
PAIR_WALLS = ((((0, 1), (1, 0)),), (((0, 1),), ((1, 0),)))


def members(value):
    """Return how many members a value has, counted within."""
    return sum(1 + members(member) for member in value) if isinstance(value, (list, tuple)) else 0


def at_places(value, change):
    """Return all values that come from changing one thing in nested tuples, the whole one among them."""
    found = list(change(value))
    if isinstance(value, tuple):
        for at, member in enumerate(value):
            for other in at_places(member, change):
                found.append(value[:at] + (other,) + value[at + 1:])
    return found


def some_walls():
    """Return tables with the depths, k and kind for which there are walls, and walls."""
    found = []
    for table in (PAIR, TRIANGLE, APART, FOUR, HARD, Table(4, ((0,), (1,), (2,), (3,))), Table(3, ((0, 1), (0, 2)))):
        for depths, kind in product((2, 3, 4), KINDS):
            for k in range(1, fewest(table, depths, kind)):
                found.append((table, depths, k, kind, walls(table, depths, k, kind)))
    return found


class Walls(unittest.TestCase):

    def assert_some_walls(self, table, depths, k, kind):
        before = unchanged(table)
        told = walls(table, depths, k, kind)
        self.assertTrue(is_plain(told))
        self.assertTrue(are_walls(table, depths, k, kind, told), (table.rows, depths, k, kind, told))
        self.assertIs(walls_hold(table, depths, k, kind, told), True)
        self.assertEqual(walls(table, depths, k, kind), told)
        self.assertEqual(unchanged(table), before)

    def assert_no_walls(self, table, depths, k, kind):
        with self.assertRaises(Undefined) as caught:
            walls(table, depths, k, kind)
        self.assertIs(type(caught.exception), Undefined)
        self.assertEqual(caught.exception.what, "walls")

    def test_small_tables(self):
        for table in small_tables():
            for depths, kind in product((2, 3, 4), KINDS):
                least = least_chambers(table, depths, kind)
                for k in range(1, 6):
                    if k < least:
                        self.assert_some_walls(table, depths, k, kind)
                    else:
                        self.assert_no_walls(table, depths, k, kind)

    def test_large_tables(self):
        for table in large_tables()[::2]:
            for depths, kind in product((2, 3, 4), KINDS):
                for k in range(1, 6):
                    try:
                        cuts_for(table, depths, k, kind)
                    except Undefined:
                        self.assert_some_walls(table, depths, k, kind)
                    else:
                        self.assert_no_walls(table, depths, k, kind)

    def test_where_walls_end_and_cuts_begin(self):
        for table, depths, kind, least in (
            (PAIR, 2, "deep", 2), (TRIANGLE, 2, "plain", 3), (TRIANGLE, 4, "deep", 3), (APART, 2, "plain", 3),
            (APART, 4, "plain", 2), (APART, 2, "deep", 4), (APART, 4, "deep", 3), (FOUR, 2, "plain", 5),
            (HARD, 2, "deep", 5), (Table(1, ((0,),)), 2, "plain", 1), (Table(5, ((0,),)), 2, "deep", 1),
        ):
            self.assertEqual(fewest(table, depths, kind), least)
            for k in range(1, 6):
                if k < least:
                    self.assert_some_walls(table, depths, k, kind)
                else:
                    self.assert_no_walls(table, depths, k, kind)

    def test_no_outs(self):
        for table in (Table(1, ((0,),)), Table(1, ((0,),) * 5), Table(5, ((0, 1, 2, 3, 4),) * 5)):
            for depths, k, kind in product((2, 3, 4), range(1, 6), KINDS):
                self.assert_no_walls(table, depths, k, kind)

    def test_arguments_by_name(self):
        told = walls(kind="plain", k=2, depths=2, table=TRIANGLE)
        self.assertTrue(are_walls(TRIANGLE, 2, 2, "plain", told))
        self.assertIs(walls_hold(value=told, kind="plain", k=2, depths=2, table=TRIANGLE), True)


class WhatWallsRefuses(unittest.TestCase):

    def assert_refused(self, error, value, table, depths, k, kind):
        before = unchanged(value)
        with self.assertRaises(error) as caught:
            walls(table, depths, k, kind)
        self.assertIs(type(caught.exception), error)
        self.assertIs(caught.exception.value, value)
        self.assertEqual(unchanged(value), before)

    def test_depths(self):
        for depths in OTHER_NUMBERS + (1, 5):
            self.assert_refused(InvalidNumber, depths, TRIANGLE, depths, 2, "plain")
            self.assert_refused(InvalidNumber, depths, TRIANGLE, depths, 3, "plain")

    def test_chambers(self):
        for k in OTHER_NUMBERS:
            self.assert_refused(InvalidNumber, k, TRIANGLE, 2, k, "plain")

    def test_kinds(self):
        for kind in OTHER_KINDS:
            self.assert_refused(InvalidKind, kind, TRIANGLE, 2, 2, kind)
            self.assert_refused(InvalidKind, kind, TRIANGLE, 2, 3, kind)

    def test_their_order(self):
        for table in (TRIANGLE, Table(1, ((0,),))):
            for depths in (1, 5, True, None, "2", [2]):
                for k in (0, 6, False, None, "3", [3], 3, 1):
                    for kind in ("flat", None, ["plain"], 0, "plain"):
                        self.assert_refused(InvalidNumber, depths, table, depths, k, kind)
            for k in (0, 6, True, None, "3", [3], 10 ** 12 - 1):
                for kind in ("flat", None, ["plain"], 0, "plain"):
                    self.assert_refused(InvalidNumber, k, table, 2, k, kind)


class WallsHold(unittest.TestCase):

    def assert_walls(self, table, depths, k, kind, value):
        before = unchanged(value)
        self.assertIs(walls_hold(table, depths, k, kind, value), True, (table.rows, depths, k, kind, value))
        self.assertEqual(unchanged(value), before)

    def assert_no_walls(self, table, depths, k, kind, value):
        before = unchanged(value)
        self.assertIs(walls_hold(table, depths, k, kind, value), False, (table.rows, depths, k, kind, value))
        self.assertEqual(unchanged(value), before)

    def test_walls_by_hand(self):
        self.assert_walls(TRIANGLE, 2, 2, "plain", TRIANGLE_WALLS)
        self.assert_walls(TRIANGLE, 2, 2, "deep", TRIANGLE_WALLS)
        self.assert_walls(TRIANGLE, 4, 2, "deep", TRIANGLE_WALLS)
        self.assert_walls(TRIANGLE, 2, 1, "plain", TRIANGLE_WALLS[1:])
        self.assert_walls(TRIANGLE, 2, 1, "plain", (TRIANGLE_WALLS[1][:1], TRIANGLE_WALLS[2][:2]))
        self.assert_walls(PAIR, 2, 1, "deep", PAIR_WALLS)
        self.assert_walls(PAIR, 4, 1, "deep", PAIR_WALLS)

    def test_the_first_three_count(self):
        # The same value with other depths, k and kinds.
        for depths in (3, 4):
            self.assert_no_walls(TRIANGLE, depths, 2, "plain", TRIANGLE_WALLS)
            self.assert_no_walls(TRIANGLE, depths, 1, "plain", TRIANGLE_WALLS[1:])
        for depths in (2, 3, 4):
            self.assert_no_walls(PAIR, depths, 1, "plain", PAIR_WALLS)
        for k in (1, 3, 4, 5):
            self.assert_no_walls(TRIANGLE, 2, k, "plain", TRIANGLE_WALLS)

    def test_what_the_first_three_must_be(self):
        for depths in OTHER_NUMBERS + (1, 5):
            self.assert_no_walls(TRIANGLE, depths, 2, "plain", TRIANGLE_WALLS)
        for k in OTHER_NUMBERS:
            self.assert_no_walls(TRIANGLE, 2, k, "plain", TRIANGLE_WALLS)
            self.assert_no_walls(TRIANGLE, 2, k, "plain", TRIANGLE_WALLS[2:])
        for kind in OTHER_KINDS:
            self.assert_no_walls(TRIANGLE, 2, 2, kind, TRIANGLE_WALLS)
        # One more level than there are chambers, where k is a bool or beyond what is let.
        self.assert_no_walls(TRIANGLE, 2, True, "plain", TRIANGLE_WALLS[1:])
        self.assert_no_walls(TRIANGLE, 2, False, "plain", TRIANGLE_WALLS[2:])
        self.assert_no_walls(TRIANGLE, 2, 0, "plain", TRIANGLE_WALLS[2:])
        self.assert_no_walls(TRIANGLE, 2, -1, "plain", ())
        self.assert_no_walls(HARD, 2, 6, "plain", ((((0, 1),),),) * 7)

    def test_other_values(self):
        for value in EVERYTHING + ((), ((),), ((), ()), ((), (), ()), (((),), ((),), ((),)), TRIANGLE, "plain"):
            for k in range(1, 6):
                self.assert_no_walls(TRIANGLE, 2, k, "plain", value)
                self.assert_no_walls(TRIANGLE, 2, k, "plain", (value,) * (k + 1))
            for at in range(3):
                self.assert_no_walls(TRIANGLE, 2, 2, "plain", TRIANGLE_WALLS[:at] + (value,) + TRIANGLE_WALLS[at + 1:])
                lots = TRIANGLE_WALLS[at] + (value,)
                self.assert_no_walls(TRIANGLE, 2, 2, "plain", TRIANGLE_WALLS[:at] + (lots,) + TRIANGLE_WALLS[at + 1:])
                for added in ((value,), (((2, 0), value),), ((value, (2, 0)),), (((0, value),),), (((value, 2),),)):
                    lots = TRIANGLE_WALLS[at] + added
                    if not are_walls(TRIANGLE, 2, 2, "plain", TRIANGLE_WALLS[:at] + (lots,) + TRIANGLE_WALLS[at + 1:]):
                        self.assert_no_walls(
                            TRIANGLE, 2, 2, "plain", TRIANGLE_WALLS[:at] + (lots,) + TRIANGLE_WALLS[at + 1:]
                        )

    def test_no_value_holds_where_there_are_cuts(self):
        for table in (Table(1, ((0,),)), Table(5, ((0, 1, 2, 3, 4),)), Table(2, ((0,),)), PAIR):
            for depths, kind in product((2, 3, 4), KINDS):
                k = fewest(table, depths, kind)
                lots = tuple((pair,) for pair in outs(table))
                self.assert_no_walls(table, depths, k, kind, (lots,) * (k + 1))
                self.assert_no_walls(table, depths, k, kind, ((outs(table),),) + (lots,) * k)
                self.assert_no_walls(table, depths, k, kind, ((),) * (k + 1))
                self.assert_no_walls(table, depths, k, kind, (((),),) * (k + 1))

    def test_all_small_values_for_a_small_table(self):
        # Deep cuts of one chamber are none for this table, so some values hold.
        lots = [lot for size in (0, 1, 2) for lot in product(((0, 1), (1, 0), (1, 1)), repeat=size)]
        levels = [level for size in (0, 1, 2) for level in product(lots, repeat=size)]
        held = 0
        for value in product(levels, repeat=2):
            told = are_walls(PAIR, 2, 1, "deep", value)
            self.assertIs(walls_hold(PAIR, 2, 1, "deep", value), told, value)
            held += told
        self.assertEqual(held, 1)

    def test_all_small_lots_for_the_triangle(self):
        pairs = outs(TRIANGLE)
        lots = [lot for size in (1, 2, 3) for lot in combinations(pairs, size)]
        levels = [tuple(sorted(level)) for size in range(0, 8) for level in combinations(lots, size)]
        for kind, depths in (("plain", 2), ("deep", 3), ("plain", 3)):
            for upper in levels:
                value = (upper, TRIANGLE_WALLS[2])
                self.assertIs(
                    walls_hold(TRIANGLE, depths, 1, kind, value), are_walls(TRIANGLE, depths, 1, kind, value)
                )
                value = TRIANGLE_WALLS[:1] + (upper,) + TRIANGLE_WALLS[2:]
                self.assertIs(
                    walls_hold(TRIANGLE, depths, 2, kind, value), are_walls(TRIANGLE, depths, 2, kind, value)
                )
                value = TRIANGLE_WALLS[:2] + (upper,)
                self.assertIs(
                    walls_hold(TRIANGLE, depths, 2, kind, value), are_walls(TRIANGLE, depths, 2, kind, value)
                )


class ValuesThatAreNearlyWalls(unittest.TestCase):

    def assert_as_told(self, table, depths, k, kind, value):
        told = are_walls(table, depths, k, kind, value)
        self.assertIs(walls_hold(table, depths, k, kind, value), told, (table.rows, depths, k, kind, value))
        return told

    def test_needless_lots_may_stand_there(self):
        everything = (((0, 2), (1, 1), (2, 0)),)
        value = (everything, tuple(sorted(TRIANGLE_WALLS[1] + everything)),
                 tuple(sorted(TRIANGLE_WALLS[2] + TRIANGLE_WALLS[1])))
        self.assertTrue(self.assert_as_told(TRIANGLE, 2, 2, "plain", value))

    def test_a_lot_more(self):
        held = {True: 0, False: 0}
        for table, depths, k, kind, value in some_walls():
            pairs = outs(table)
            lots = [lot for size in (1, 2) for lot in combinations(pairs, size)][::11] + [pairs, pairs[:5], pairs[3:]]
            for t in range(k + 1):
                for lot in lots:
                    if lot not in value[t]:
                        more = tuple(sorted(value[t] + (lot,)))
                        told = self.assert_as_told(table, depths, k, kind, value[:t] + (more,) + value[t + 1:])
                        held[told] += 1
        self.assertGreater(held[True], 100)
        self.assertGreater(held[False], 100)

    def test_a_lot_less(self):
        some = 0
        for table, depths, k, kind, value in some_walls():
            for t in range(k + 1):
                for at in range(len(value[t])):
                    less = value[t][:at] + value[t][at + 1:]
                    if not self.assert_as_told(table, depths, k, kind, value[:t] + (less,) + value[t + 1:]):
                        some += 1
        self.assertGreater(some, 100)

    def test_a_level_less_or_more(self):
        for table, depths, k, kind, value in some_walls():
            for other in (value[1:], value[:-1], value[:1], value[-1:], (), value + value[-1:], value[:1] + value,
                          value + ((),), value + value, value + (((pair,) for pair in outs(table)),)):
                self.assertIs(walls_hold(table, depths, k, kind, other), False)

    def test_no_lots_in_a_level(self):
        for table, depths, k, kind, value in some_walls():
            for t in range(k + 1):
                for level in ((), ((),), ((),) + value[t], value[t] + ((),)):
                    self.assertIs(walls_hold(table, depths, k, kind, value[:t] + (level,) + value[t + 1:]), False)

    def test_a_pair_left_out(self):
        held = {True: 0, False: 0}
        for table, depths, k, kind, value in some_walls():
            for t in range(k + 1):
                for at, lot in list(enumerate(value[t]))[::3]:
                    for place in range(len(lot)):
                        less = lot[:place] + lot[place + 1:]
                        level = value[t][:at] + value[t][at + 1:]
                        if less not in level:
                            level = tuple(sorted(level + (less,)))
                        told = self.assert_as_told(table, depths, k, kind, value[:t] + (level,) + value[t + 1:])
                        held[told] += 1
        self.assertGreater(held[False], 100)

    def test_out_of_order_or_twice(self):
        for table, depths, k, kind, value in some_walls():
            for t in range(k + 1):
                level = value[t]
                others = [level + level[-1:], level[:1] + level]
                if len(level) > 1:
                    others += [level[::-1], level[1:] + level[:1], level[1:2] + level[:1] + level[2:]]
                for at, lot in enumerate(level):
                    changed = [lot + lot[-1:], lot[:1] + lot]
                    if len(lot) > 1:
                        changed += [lot[::-1], lot[1:] + lot[:1], lot[1:2] + lot[:1] + lot[2:]]
                    others += [level[:at] + (other,) + level[at + 1:] for other in changed]
                for other in others:
                    self.assertIs(walls_hold(table, depths, k, kind, value[:t] + (other,) + value[t + 1:]), False)

    def assert_no_change_holds(self, change):
        for table, depths, k, kind, value in some_walls():
            for other in at_places(value, change)[:400]:
                self.assertIs(walls_hold(table, depths, k, kind, other), False, other)

    def test_bools_for_numbers(self):
        self.assert_no_change_holds(lambda value: [bool(value)] if value in (0, 1) and type(value) is int else [])

    def test_lists_for_tuples(self):
        self.assert_no_change_holds(lambda value: [list(value)] if isinstance(value, tuple) else [])

    def test_strings_and_none(self):
        self.assert_no_change_holds(lambda value: [None, str(value), "", (), [value]])

    def test_one_wrapping_more(self):
        self.assert_no_change_holds(lambda value: [(value,)])

    def test_a_number_changed(self):
        def change(value):
            return [value + 1, value - 1, -1, 5, 10 ** 12 - 1] if type(value) is int else []

        for table, depths, k, kind, value in some_walls()[::2]:
            for other in at_places(value, change)[::3]:
                self.assert_as_told(table, depths, k, kind, other)

    def test_a_pair_longer_or_shorter(self):
        def change(value):
            if isinstance(value, tuple) and value and type(value[0]) is int:
                return [value + (0,), value[:1], value * 2]
            return []

        self.assert_no_change_holds(change)

    def test_pairs_that_are_not_out(self):
        # (0, 0) is in the row, and lock 3 and key 3 are none.
        for pair in ((0, 0), (3, 0), (0, 3), (-1, 0), (0, -1)):
            for t in range(3):
                for level in (((pair,),), tuple(sorted(TRIANGLE_WALLS[t] + ((pair,),)))):
                    value = TRIANGLE_WALLS[:t] + (level,) + TRIANGLE_WALLS[t + 1:]
                    self.assertIs(walls_hold(TRIANGLE, 2, 2, "plain", value), False)

    def test_walls_of_other_tables(self):
        for table, depths, k, kind, value in some_walls():
            for other in (TRIANGLE, PAIR, APART, FOUR, HARD, Table(1, ((0,),)), Table(5, ((0, 1, 2, 3, 4),))):
                self.assert_as_told(other, depths, k, kind, value)

    def test_tuples_of_a_class_of_their_own_are_tuples(self):
        value = Row(
            Row(Row(Row(pair) for pair in lot) for lot in lots) for lots in TRIANGLE_WALLS
        )
        self.assertIs(walls_hold(TRIANGLE, 2, 2, "plain", value), True)


class LargeValues(unittest.TestCase):

    def test_many_needless_lots(self):
        for table, depths, k, kind in ((APART, 2, 2, "plain"), (APART, 4, 2, "deep"), (HARD, 2, 4, "deep")):
            value = walls(table, depths, k, kind)
            last = set(value[k])
            left = 29000 - members(value)
            for size in range(1, 21):
                for lot in combinations(outs(table), size):
                    if left > 0 and lot not in last:
                        last.add(lot)
                        left -= 2 + 3 * size
            value = value[:k] + (tuple(sorted(last)),)
            self.assertGreater(members(value), 25000)
            self.assertIs(walls_hold(table, depths, k, kind, value), True)
            self.assertIs(walls_hold(table, depths, k, kind, value[:k] + (value[k][::-1],)), False)

    def test_many_lots_none_within_another(self):
        # One parting of two depths keeps out 12 of these 20 pairs at most, so it leaves three of each 17.
        triples = tuple(combinations(outs(APART), 3))
        lots = tuple(combinations(outs(APART), 17))[::4]
        value = (lots, triples)
        self.assertGreater(members(value), 25000)
        self.assertIs(walls_hold(APART, 2, 1, "plain", value), True)
        # Of a triple a parting that keeps out any pair of it leaves no triple.
        self.assertIs(walls_hold(APART, 2, 1, "plain", (tuple(sorted(lots + triples[-1:])), triples)), False)

    def test_walls_that_are_lengthened(self):
        for table, depths, k, kind, value in some_walls():
            for t in range(k + 1):
                longer = value[:t] + (value[t] * 2,) + value[t + 1:]
                self.assertIs(walls_hold(table, depths, k, kind, longer), False)

    def test_long_and_deep_values(self):
        for value in (
            ((),) * 30000, (((0, 2),) * 10000, (((0, 2),),)), ((((0, 2),) * 9000,), (((0, 2),),)),
            deep_tuple(60), (deep_tuple(58), deep_tuple(58)), ((deep_tuple(57),), (deep_tuple(57),)),
            (tuple(((0, lock),) for lock in range(7000)), (((0, 2),),)), (((tuple(range(29000)),),), (((0, 2),),)),
            ((("x" * 4000,),), ((4000,),)), ((((10 ** 12 - 1, 10 ** 12 - 1),),), (((0, 2),),)),
        ):
            self.assertIs(walls_hold(TRIANGLE, 2, 1, "plain", value), False)

    def test_values_of_every_kind_within(self):
        for bad in NEITHER:
            for other in at_places(TRIANGLE_WALLS, lambda value: [bad]):
                if not are_walls(TRIANGLE, 2, 2, "plain", other):
                    self.assertIs(walls_hold(TRIANGLE, 2, 2, "plain", other), False)


if __name__ == "__main__":
    unittest.main()
