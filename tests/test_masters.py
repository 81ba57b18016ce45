"""Tests of one master and many locks: [13], [14], and promises (8) and (9)."""

import unittest
from fractions import Fraction
from itertools import combinations, product

from chambercuts.cuts import fits
from chambercuts.errors import InvalidCuts, InvalidNumber
from chambercuts.masters import are_master_cuts, greatest, layer, master_table, share
from chambercuts.partings import cuts_for, fewest
from chambercuts.tables import Table
from tests.plainly import all_cuts
from tests.samples import EVERYTHING, NEITHER, Row, deep_list, deep_tuple, is_plain, unchanged

SIZES = tuple(product((1, 2, 3, 4), (2, 3, 4)))
GREATEST = {
    (1, 2): 1, (1, 3): 2, (1, 4): 3, (2, 2): 2, (2, 3): 4, (2, 4): 9,
    (3, 2): 3, (3, 3): 12, (3, 4): 27, (4, 2): 6, (4, 3): 32, (4, 4): 108,
}
# The number of chambers in which the cuts of the chosen layer are not 0.
CHOSEN = {
    (1, 2): 0, (1, 3): 1, (1, 4): 1, (2, 2): 1, (2, 3): 1, (2, 4): 2,
    (3, 2): 1, (3, 3): 2, (3, 4): 2, (4, 2): 2, (4, 3): 3, (4, 4): 3,
}
OTHER_NUMBERS = NEITHER + (0, -1, -2, 6, 7, 10 ** 12 - 1, -(10 ** 12 - 1), (1,), [2], "1")


def size(cut):
    return sum(1 for depth in cut if depth)


def stands_out(cut, other):
    return any(depth and depth != there for depth, there in zip(cut, other))


def are_apart(cuts):
    """Tell whether any two of some cuts at unlike places are let together under a master."""
    return all(stands_out(one, other) and stands_out(other, one) for one, other in combinations(cuts, 2))


def most_apart(k, d):
    """Return the most cuts of which any two are let together, found by all that are."""
    cuts = all_cuts(k, d)
    best = 0
    groups = [((), cuts)]
    while groups:
        chosen, left = groups.pop()
        best = max(best, len(chosen))
        for at, cut in enumerate(left):
            groups.append((chosen + (cut,), [other for other in left[at + 1:] if are_apart([cut, other])]))
    return best


def some_master_cuts(k, d):
    """Return master cuts of many sizes, with cuts of many layers."""
    found = [((0,) * k,), ((0,) * k, (0,) * k), ((0,) * k, (d - 1,) * k), layer(k, d, greatest(k, d))]
    cuts = all_cuts(k, d)
    for start in range(12):
        chosen = []
        for at in range(len(cuts)):
            cut = cuts[(start * 29 + at * 7 + at * at * start) % len(cuts)]
            if are_apart(chosen + [cut]) and len(chosen) < 3 + 9 * start:
                chosen.append(cut)
        found.append(((0,) * k,) + tuple(chosen))
    return found


class MasterCuts(unittest.TestCase):

    def test_by_hand(self):
        for k, d, value, told in (
            (1, 2, ((0,),), True), (1, 2, ((1,),), False), (1, 2, ((0,), (1,)), True), (1, 2, ((0,), (0,)), True),
            (1, 2, ((0,), (0,), (1,)), False), (1, 2, ((0,), (1,), (0,)), False), (1, 2, ((0,), (1,), (1,)), False),
            (1, 3, ((0,), (1,), (2,)), True), (1, 3, ((0,), (2,), (1,)), True), (1, 3, ((0,), (0,), (1,)), False),
            (1, 3, ((0,), (1,), (2,), (1,)), False), (1, 3, ((1,), (2,)), False), (1, 2, ((0,), (2,)), False),
            (2, 2, ((0, 0), (0, 1), (1, 0)), True), (2, 2, ((0, 0), (0, 1), (1, 1)), False),
            (2, 2, ((0, 0), (1, 1), (0, 1)), False), (2, 2, ((0, 0), (1, 1)), True), (2, 2, ((0, 1), (1, 0)), False),
            (2, 3, ((0, 0), (0, 1), (1, 2)), True), (2, 3, ((0, 0), (0, 2), (1, 2)), False),
            (2, 3, ((0, 0), (0, 1), (0, 2), (1, 0), (2, 0)), True),
            (2, 3, ((0, 0), (1, 1), (1, 2), (2, 1), (2, 2)), True),
            (2, 3, ((0, 0), (1, 1), (1, 2), (2, 1), (2, 2), (1, 1)), False),
            (2, 3, ((0, 0), (0, 0)), True), (2, 3, ((0, 0), (0, 0), (0, 0)), False),
            (4, 4, ((0, 0, 0, 0), (3, 3, 3, 3)), True), (4, 4, ((0, 0, 0, 0), (4, 0, 0, 0)), False),
            (4, 4, ((0, 0, 0, 0), (3, 3, 3, 0), (3, 3, 3, 3)), False),
            (4, 4, ((0, 0, 0, 0), (3, 3, 2, 0), (3, 3, 3, 3)), True),
        ):
            self.assertIs(are_master_cuts(k, d, value), told, (k, d, value))

    def test_all_that_are_small(self):
        for k, d, most in ((1, 2, 4), (1, 3, 4), (1, 4, 4), (2, 2, 4), (2, 3, 3), (3, 2, 3), (2, 4, 2), (3, 3, 2)):
            cuts = all_cuts(k, d)
            for many in range(1, most + 1):
                for first in (cuts if many < 3 else cuts[:2]):
                    for others in product(cuts, repeat=many - 1):
                        told = not any(first) and are_apart(others)
                        self.assertIs(are_master_cuts(k, d, (first,) + others), told)

    def test_larger_ones(self):
        for k, d in SIZES:
            cuts = all_cuts(k, d)
            for value in some_master_cuts(k, d):
                self.assertIs(are_master_cuts(k, d, value), True)
                for cut in cuts[::1 + len(cuts) // 40]:
                    self.assertIs(are_master_cuts(k, d, value + (cut,)), are_apart(value[1:] + (cut,)))
                    self.assertIs(are_master_cuts(k, d, (cut,) + value[1:]), not any(cut))

    def test_two_others_at_any_places(self):
        # The two that are not let together stand at any two places of eight.
        right = layer(4, 2, 6)[1:]
        for one, other in combinations(range(6), 2):
            value = list(right)
            value[other] = right[one]
            self.assertIs(are_master_cuts(4, 2, ((0,) * 4,) + tuple(value)), False)

    def test_what_are_none(self):
        right = ((0, 0), (0, 1), (1, 0))
        for value in EVERYTHING + (
            (), list(right), [right], (right,), right + (None,), right + ((),), (list(right[0]),) + right[1:],
            right[:2] + ([1, 0],), right[1:], ((0, 0, 0), (0, 1, 0)), ((0,), (1,)), right[:2] + ((1,),),
            right[:2] + ((1, 0, 0),), ((0, 0), (0, True), (1, 0)), ((0, False), (0, 1), (1, 0)), ((False, False),),
            right[:2] + ((2, 0),), right[:2] + ((-1, 0),), ("00", "01"), ((0, 0), "01"), 0, ((0, 0), 1),
            ((0, 0), (0, "1")), ((0, 0), ((0,), 1)), (right, right), Table(1, ((0,),)), (0, 0), ((0, 0), (1, None)),
        ):
            before = unchanged(value)
            self.assertIs(are_master_cuts(2, 2, value), False)
            self.assertEqual(unchanged(value), before)

    def test_large_values(self):
        self.assertIs(are_master_cuts(4, 4, ((0, 0, 0, 0),) * 6000), False)
        self.assertIs(are_master_cuts(1, 2, ((0,),) * 15000), False)
        self.assertIs(are_master_cuts(4, 4, tuple(all_cuts(4, 4)) * 20), False)
        self.assertIs(are_master_cuts(4, 4, layer(4, 4, 108) * 2), False)
        self.assertIs(are_master_cuts(4, 4, layer(4, 4, 108) + layer(4, 4, 108)[1:]), False)
        self.assertIs(are_master_cuts(2, 3, deep_tuple(59)), False)
        self.assertIs(are_master_cuts(2, 3, ((0, 0), deep_list(58))), False)

    def test_arguments(self):
        self.assertIs(are_master_cuts(value=((0,), (1,)), d=2, k=1), True)
        self.assertIs(are_master_cuts(1, 2, Row((Row((0,)), (1,)))), True)


class Greatest(unittest.TestCase):

    def test_all_of_them(self):
        for k, d in SIZES:
            self.assertEqual(greatest(k, d), GREATEST[k, d])
            self.assertIs(type(greatest(k, d)), int)
            sizes = [size(cut) for cut in all_cuts(k, d)]
            self.assertEqual(greatest(k, d), max(sizes.count(r) for r in range(k + 1)))

    def test_there_are_no_more_master_cuts(self):
        for k, d in ((1, 2), (1, 3), (1, 4), (2, 2), (2, 3), (3, 2), (2, 4), (4, 2)):
            self.assertEqual(greatest(k, d), most_apart(k, d))

    def test_what_it_refuses(self):
        for k in OTHER_NUMBERS + (5,):
            for d in (2, 4, 1, None, True):
                before = unchanged(k)
                with self.assertRaises(InvalidNumber) as caught:
                    greatest(k, d)
                self.assertIs(type(caught.exception), InvalidNumber)
                self.assertIs(caught.exception.value, k)
                self.assertEqual(unchanged(k), before)
        for d in OTHER_NUMBERS + (1, 5):
            for k in (1, 2, 3, 4):
                with self.assertRaises(InvalidNumber) as caught:
                    greatest(k, d)
                self.assertIs(type(caught.exception), InvalidNumber)
                self.assertIs(caught.exception.value, d)

    def test_arguments_by_name(self):
        self.assertEqual(greatest(d=4, k=3), 27)
        self.assertEqual(greatest(4, d=3), 32)


class Layer(unittest.TestCase):

    def test_by_hand(self):
        for k, d, many, told in (
            (1, 2, 0, ((0,),)), (1, 2, 1, ((0,), (0,))), (1, 3, 1, ((0,), (1,))), (1, 3, 2, ((0,), (1,), (2,))),
            (1, 4, 3, ((0,), (1,), (2,), (3,))), (2, 2, 2, ((0, 0), (0, 1), (1, 0))), (2, 2, 1, ((0, 0), (0, 1))),
            (2, 3, 4, ((0, 0), (0, 1), (0, 2), (1, 0), (2, 0))), (2, 4, 2, ((0, 0), (1, 1), (1, 2))),
            (3, 2, 3, ((0, 0, 0), (0, 0, 1), (0, 1, 0), (1, 0, 0))), (3, 3, 1, ((0, 0, 0), (0, 1, 1))),
            (4, 2, 3, ((0, 0, 0, 0), (0, 0, 1, 1), (0, 1, 0, 1), (0, 1, 1, 0))), (4, 4, 0, ((0, 0, 0, 0),)),
            (4, 4, 1, ((0, 0, 0, 0), (0, 1, 1, 1))),
        ):
            self.assertEqual(layer(k, d, many), told)

    def test_all_of_them(self):
        for k, d in SIZES:
            whole = [cut for cut in all_cuts(k, d) if size(cut) == CHOSEN[k, d]]
            self.assertEqual(len(whole), GREATEST[k, d])
            for many in range(greatest(k, d) + 1):
                told = layer(k, d, many)
                self.assertTrue(is_plain(told))
                self.assertEqual(told, ((0,) * k,) + tuple(whole[:many]))
                self.assertIs(are_master_cuts(k, d, told), True)

    def test_what_it_refuses(self):
        for k in OTHER_NUMBERS + (5,):
            for d, many in product((2, 5, None), (0, 200, None)):
                self.assert_refused(k, k, d, many)
        for d in OTHER_NUMBERS + (5, 1):
            for many in (0, 1, 200, None, True):
                self.assert_refused(d, 2, d, many)

    def test_how_many_it_refuses(self):
        for k, d in SIZES:
            for many in (greatest(k, d) + 1, greatest(k, d) + 2, -1, 10 ** 12 - 1, -(10 ** 12 - 1), True, False):
                self.assert_refused(many, k, d, many)
        for many in NEITHER + ((0,), [1], "1", (1, 2)):
            self.assert_refused(many, 3, 3, many)

    def assert_refused(self, value, k, d, many):
        before = unchanged(value)
        with self.assertRaises(InvalidNumber) as caught:
            layer(k, d, many)
        self.assertIs(type(caught.exception), InvalidNumber)
        self.assertIs(caught.exception.value, value)
        self.assertEqual(unchanged(value), before)

    def test_arguments_by_name(self):
        self.assertEqual(layer(many=1, d=2, k=2), ((0, 0), (0, 1)))


class Share(unittest.TestCase):

    def test_by_hand(self):
        for k, d, value, told in (
            (1, 2, ((0,),), (0, 1)), (1, 2, ((0,), (0,)), (1, 1)), (1, 2, ((0,), (1,)), (1, 1)),
            (1, 4, ((0,), (3,)), (1, 3)), (1, 4, ((0,), (3,), (1,)), (2, 3)), (1, 4, ((0,), (3,), (1,), (2,)), (1, 1)),
            (2, 3, ((0, 0), (0, 1), (1, 2)), (1, 2)), (2, 4, ((0, 0), (0, 1), (1, 2)), (5, 18)),
            (2, 4, ((0, 0), (0, 1)), (1, 6)), (2, 4, ((0, 0), (1, 1), (2, 2), (3, 3)), (1, 3)),
            (4, 4, ((0, 0, 0, 0),), (0, 1)), (4, 4, ((0, 0, 0, 0), (0, 0, 0, 0)), (1, 1)),
            (4, 4, ((0, 0, 0, 0), (1, 0, 0, 0), (0, 1, 1, 0), (0, 2, 2, 2), (2, 3, 3, 3)), (10, 81)),
        ):
            self.assertEqual(share(k, d, value), told, (k, d, value))

    def test_it_is_the_sum_and_at_most_1(self):
        for k, d in SIZES:
            sizes = [size(cut) for cut in all_cuts(k, d)]
            for value in some_master_cuts(k, d):
                before = unchanged(value)
                told = share(k, d, value)
                self.assertTrue(is_plain(told))
                wanted = sum((Fraction(1, sizes.count(size(cut))) for cut in value[1:]), Fraction(0))
                self.assertEqual(told, (wanted.numerator, wanted.denominator))
                self.assertLessEqual(told[0], told[1])
                self.assertLessEqual(len(value) - 1, greatest(k, d))
                self.assertEqual(unchanged(value), before)

    def test_a_whole_layer_has_the_share_1(self):
        for k, d in SIZES:
            self.assertEqual(share(k, d, layer(k, d, greatest(k, d))), (1, 1))
            for r in range(k + 1):
                whole = tuple(cut for cut in all_cuts(k, d) if size(cut) == r)
                self.assertEqual(share(k, d, ((0,) * k,) + whole), (1, 1))
                self.assertEqual(share(k, d, ((0,) * k,) + whole[1:]), (
                    (0, 1) if len(whole) == 1 else (len(whole) - 1, len(whole))
                ))

    def test_what_it_refuses(self):
        right = ((0, 0), (0, 1), (1, 0))
        for k in OTHER_NUMBERS + (5,):
            for d, value in product((2, None), (right, None)):
                self.assert_refused(InvalidNumber, k, k, d, value)
        for d in OTHER_NUMBERS + (1, 5):
            for value in (right, None, ()):
                self.assert_refused(InvalidNumber, d, 2, d, value)
        for value in EVERYTHING + (
            (), list(right), right[1:], right + ((1, 0),), right + ((1, 1),), ((0, 0), (0, True)), ((0, 0), [0, 1]),
            ((False, 0), (0, 1)), ((0, 0), (0, 2)), ((0,), (1,)), ((0, 0), (0, 0), (0, 0)), "00",
        ):
            self.assert_refused(InvalidCuts, value, 2, 2, value)

    def assert_refused(self, error, value, k, d, cuts):
        before = unchanged(value)
        with self.assertRaises(error) as caught:
            share(k, d, cuts)
        self.assertIs(type(caught.exception), error)
        self.assertIs(caught.exception.value, value)
        self.assertEqual(unchanged(value), before)

    def test_arguments(self):
        self.assertEqual(share(value=((0,), (1,)), d=3, k=1), (1, 2))
        self.assertEqual(share(1, 3, Row((Row((0,)), (1,)))), (1, 2))


class MasterTable(unittest.TestCase):

    def test_all_of_them(self):
        for n, rows in (
            (1, ((0, 1),)), (2, ((0, 1), (0, 2))), (3, ((0, 1), (0, 2), (0, 3))),
            (4, ((0, 1), (0, 2), (0, 3), (0, 4))),
        ):
            told = master_table(n)
            self.assertIs(type(told), Table)
            self.assertEqual(told.many, n + 1)
            self.assertEqual(told.rows, rows)
            self.assertTrue(is_plain(told.rows))
            self.assertEqual(master_table(n), told)

    def test_its_fewest_chambers(self):
        for n, d in product((1, 2, 3, 4), (2, 3, 4)):
            enough = [k for k in (1, 2, 3, 4) if greatest(k, d) >= n]
            self.assertEqual(fewest(master_table(n), d, "plain"), enough[0])
            for k in enough:
                self.assertIs(fits(master_table(n), d, layer(k, d, n)), True)
                self.assertEqual(len(cuts_for(master_table(n), d, k, "plain")), n + 1)

    def test_the_cuts_that_fit_it_are_master_cuts_but_for_the_first_depths(self):
        # With the master's cut all 0, cuts fit the table just if any two others are let together.
        for n, (k, d) in product((2, 3), ((1, 3), (1, 4), (2, 2), (2, 3))):
            for others in product(all_cuts(k, d), repeat=n):
                cuts = ((0,) * k,) + others
                self.assertIs(fits(master_table(n), d, cuts), are_master_cuts(k, d, cuts))

    def test_what_it_refuses(self):
        for n in OTHER_NUMBERS + (5,):
            before = unchanged(n)
            with self.assertRaises(InvalidNumber) as caught:
                master_table(n)
            self.assertIs(type(caught.exception), InvalidNumber)
            self.assertIs(caught.exception.value, n)
            self.assertEqual(unchanged(n), before)

    def test_the_argument_by_name(self):
        self.assertEqual(master_table(n=2), Table(3, ((0, 1), (0, 2))))


if __name__ == "__main__":
    unittest.main()
