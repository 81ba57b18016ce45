"""Tests of questions and claims: [15], and promise (10)."""

import unittest
from itertools import product

from chambercuts.claims import answer_of, is_claim, is_question, question_of
from chambercuts.errors import InvalidClaim, InvalidQuestion
from chambercuts.systems import System
from chambercuts.tables import Table
from tests.plain_claims import claims_for, is_true, questions_of
from tests.plainly import all_rows
from tests.sample_systems import (
    APART, APART_CUTS, FULL, ONE, TWO, TWO_CUTS, deep_systems, large_systems, odd_systems, small_systems, some_systems,
)
from tests.samples import EVERYTHING, Row, is_plain, unchanged

SYSTEM = System(TWO, 2, TWO_CUTS)
WORDS = ("cuts", "no cuts", "fewest", "threat", "safe", "made", "not made", "lock", "no lock", "room")
OTHER_WORDS = ("", "Cuts", "no", "no fewest", "no room", "not threat", "unsafe", "fits", None, 0, ("cuts",), ["cuts"], True)
PARTS = (
    0, 1, 2, 3, 4, 5, 6, -1, 10 ** 12 - 1, True, False, None, "plain", "deep", "flat", "", (), (0,), (1,), (2,), (3,),
    (0, 1), (1, 0), (0, 0), (0, 1, 2), (0, True), (False,), [0], [], [0, 1], ((0,),), ("0",), ("plain",),
)


def some_tables():
    """Return tables of 1 to 5 keys and locks."""
    tables = [ONE, TWO, APART, FULL, Table(3, ((0, 1), (0, 2), (1, 2)))]
    for many in (2, 3, 4, 5):
        rows = all_rows(many)
        tables.append(Table(many, tuple(rows[(7 * at + many) % len(rows)] for at in range(many))))
    return tables


def check_systems():
    return some_systems()[::4] + odd_systems()[::8] + small_systems()[::100] + deep_systems()[::12]


def all_values(words, parts, most):
    """Return all tuples of a word and of up to so many parts."""
    return [(word,) + some for word in words for length in range(most + 1) for some in product(parts, repeat=length)]


class Questions(unittest.TestCase):

    def assert_just(self, thing, values, right):
        right = [repr(value) for value in right]
        for value in values:
            told = is_question(thing, value)
            self.assertIs(told, repr(value) in right, value)

    def test_each_question_is_one(self):
        for thing in some_tables() + check_systems():
            for question in questions_of(thing):
                self.assertIs(is_question(thing, question), True)

    def test_just_these(self):
        values = all_values(WORDS, PARTS, 2) + all_values(OTHER_WORDS, PARTS[:20:3], 2)
        values += all_values(("cuts", "no cuts"), (0, 1, 2, 4, 5, 6, True, "plain", "deep", "", None, ("plain",)), 3)
        for thing in (TWO, ONE, SYSTEM, System(ONE, 2, ((0,),)), System(Table(2, ((0,), (1,))), 2, ((0,), (1,)))):
            self.assert_just(thing, values, questions_of(thing))

    def test_the_number_of_depths_and_of_chambers(self):
        for depths, k in product(range(-1, 8), repeat=2):
            right = 2 <= depths <= 4
            self.assertIs(is_question(TWO, ("cuts", depths, k, "plain")), right and 1 <= k <= 5)
            self.assertIs(is_question(TWO, ("fewest", depths, "deep")), right)

    def test_those_of_a_table_are_none_of_a_system(self):
        for table, system in ((TWO, SYSTEM), (APART, System(APART, 2, APART_CUTS)), (ONE, System(ONE, 2, ((0,),)))):
            for question in questions_of(table):
                self.assertIs(is_question(system, question), False)
            for question in questions_of(system):
                self.assertIs(is_question(table, question), False)

    def test_keys_and_locks_that_are_not_there(self):
        for system in check_systems():
            many, locks = system.table.many, len(system.table.rows)
            for question in (
                ("threat", many, 0), ("threat", 0, locks), ("threat", -1, 0), ("threat", 0, -1), ("made", (many,), 0),
                ("made", (0,), locks), ("made", (0,), -1), ("made", (), 0), ("lock", (0, many)), ("lock", ()),
                ("room", (locks,)), ("room", (0, locks)), ("room", (-1,)), ("room", tuple(range(locks + 1))),
                ("lock", tuple(range(many + 1))), ("made", tuple(range(many + 1)), 0),
            ):
                self.assertIs(is_question(system, question), False)
            for lock, row in enumerate(system.table.rows):
                for key in row:
                    self.assertIs(is_question(system, ("threat", key, lock)), False)

    def test_any_value(self):
        for thing in (TWO, ONE, SYSTEM, System(ONE, 2, ((0,),))):
            for value in EVERYTHING + WORDS + (
                TWO, SYSTEM, ["lock", (0,)], ("lock", [0]), (("lock", (0,)),), ("lock", (0,), ()), ("lock",) * 30000,
                ("room",), ("room", ()) + ((),) * 3, [("lock", (0,))], ("fewest", 2), ("fewest", 2, "plain", 1),
                ("cuts", 2, 1, "plain", 0), ("cuts", 2, 1), ("lock", (0,) * 30000), ("x" * 4000, (0,)),
            ):
                before = unchanged(value)
                self.assertIs(is_question(thing, value), False)
                self.assertEqual(unchanged(value), before)

    def test_arguments(self):
        self.assertIs(is_question(value=("lock", (0,)), thing=SYSTEM), True)
        self.assertIs(is_question(SYSTEM, Row(("lock", Row((0,))))), True)


class Claims(unittest.TestCase):

    def test_each_claim_is_one_and_tells_its_question(self):
        for thing in some_tables() + check_systems():
            for question in questions_of(thing):
                for claim in claims_for(thing, question):
                    self.assertIs(is_claim(thing, claim), True)
                    told = question_of(thing, claim)
                    self.assertEqual(told, question)
                    self.assertIs(type(told), tuple)

    def test_just_these(self):
        values = all_values(WORDS, PARTS, 2) + all_values(OTHER_WORDS, PARTS[:20:3], 2)
        values += all_values(WORDS, (0, 1, 2, 4, 5, 6, True, "plain", "deep", None, (), (0,), (0, 1)), 3)
        for thing in (TWO, ONE, SYSTEM, System(Table(2, ((0,), (1,))), 2, ((0,), (1,)))):
            right = {}
            for question in questions_of(thing):
                for claim in claims_for(thing, question):
                    right[repr(claim)] = question
                if question[0] == "room":
                    for many in (0, 1, 2, 3, 4, 5, 6, 10 ** 12 - 1):
                        right[repr(question + (many,))] = question
            for value in values:
                told = is_claim(thing, value)
                self.assertIs(told, repr(value) in right, value)
                if told:
                    self.assertEqual(question_of(thing, value), right[repr(value)])
                else:
                    with self.assertRaises(InvalidClaim) as caught:
                        question_of(thing, value)
                    self.assertIs(type(caught.exception), InvalidClaim)
                    self.assertIs(caught.exception.value, value)

    def test_numbers_at_the_end(self):
        for many in (-2, -1, 0, 1, 2, 4, 5, 6, 10 ** 12 - 1, True, False, None, "1", (1,), [1], ()):
            is_number = type(many) is int
            self.assertIs(is_claim(SYSTEM, ("room", (), many)), is_number and many >= 0)
            self.assertIs(is_claim(TWO, ("fewest", 2, "plain", many)), is_number and 1 <= many <= 5)

    def test_those_of_a_table_are_none_of_a_system(self):
        for table, system in ((TWO, SYSTEM), (APART, System(APART, 2, APART_CUTS))):
            for one, other in ((table, system), (system, table)):
                for question in questions_of(one):
                    for claim in claims_for(one, question):
                        self.assertIs(is_claim(other, claim), False)
                        with self.assertRaises(InvalidClaim):
                            question_of(other, claim)

    def test_any_value(self):
        for thing in (TWO, ONE, SYSTEM, System(ONE, 2, ((0,),))):
            for value in EVERYTHING + WORDS + tuple((word,) for word in WORDS) + (
                TWO, SYSTEM, ["lock", (0,)], ("no lock", [0]), (("lock", (0,)),), ("lock",) * 30000, ("room", ()),
                ("room", (), 0, 0), ("fewest", 2, "plain"), ("no lock", (0,), 1), ("no room", ()), ("no fewest", 2, "deep"),
                ("room", (), 0, None), ("safe", 0, 0, 0), ("fewest", 2, "plain", 1, 1),
            ):
                before = unchanged(value)
                self.assertIs(is_claim(thing, value), False)
                with self.assertRaises(InvalidClaim) as caught:
                    question_of(thing, value)
                self.assertIs(caught.exception.value, value)
                self.assertEqual(unchanged(value), before)

    def test_arguments(self):
        self.assertIs(is_claim(value=("no lock", (0,)), thing=SYSTEM), True)
        self.assertEqual(question_of(claim=("no lock", (0,)), thing=SYSTEM), ("lock", (0,)))
        for claim in (
            Row(("no lock", Row((0, 1)))), Row(("room", Row((0, 1)), 3)), Row(("lock", Row((0,)))),
            Row(("not made", Row((0,)), 1)), Row(("made", Row((0,)), 1)),
        ):
            self.assertIs(is_claim(SYSTEM, claim), True)
            question = question_of(SYSTEM, claim)
            self.assertIs(type(question), tuple)
            self.assertIs(type(question[1]), tuple)
            self.assertEqual(question[1], claim[1])


class Answers(unittest.TestCase):

    def test_by_hand(self):
        for thing, question, told in (
            (TWO, ("cuts", 2, 1, "plain"), ("no cuts", 2, 1, "plain")),
            (TWO, ("cuts", 2, 2, "plain"), ("cuts", 2, 2, "plain")),
            (TWO, ("cuts", 3, 1, "plain"), ("cuts", 3, 1, "plain")),
            (TWO, ("cuts", 3, 1, "deep"), ("no cuts", 3, 1, "deep")),
            (TWO, ("fewest", 2, "plain"), ("fewest", 2, "plain", 2)),
            (TWO, ("fewest", 4, "plain"), ("fewest", 4, "plain", 1)),
            (TWO, ("fewest", 4, "deep"), ("fewest", 4, "deep", 2)),
            (APART, ("fewest", 2, "deep"), ("fewest", 2, "deep", 4)),
            (SYSTEM, ("threat", 1, 1), ("safe", 1, 1)),
            (System(TWO, 2, ((1, 1), (1, 0), (0, 1))), ("threat", 1, 1), ("threat", 1, 1)),
            (SYSTEM, ("made", (1, 2), 0), ("made", (1, 2), 0)),
            (SYSTEM, ("made", (2,), 0), ("not made", (2,), 0)),
            (SYSTEM, ("lock", (1, 2)), ("no lock", (1, 2))),
            (SYSTEM, ("lock", (0, 1)), ("lock", (0, 1))),
            (SYSTEM, ("room", ()), ("room", (), 1)),
            (SYSTEM, ("room", (0, 1)), ("room", (0, 1), 1)),
            (System(APART, 2, APART_CUTS), ("room", (0,)), ("room", (0,), 4)),
            (System(FULL, 2, ((0,), (1,), (0,), (1,), (0,))), ("room", ()), ("room", (), 0)),
            (System(ONE, 4, ((3, 0, 1, 2, 3),)), ("room", (0,)), ("room", (0,), 1024)),
        ):
            self.assertEqual(answer_of(thing, question), told)

    def test_just_one_claim_is_true_and_it_is_returned(self):
        for thing in some_tables() + check_systems():
            before = unchanged(thing)
            for question in questions_of(thing):
                claim = answer_of(thing, question)
                self.assertIs(type(claim), tuple)
                right = [other for other in claims_for(thing, question) if is_true(thing, other)]
                self.assertEqual(right, [claim])
                self.assertEqual(answer_of(thing, question), claim)
                self.assertEqual(question_of(thing, claim), question)
            self.assertEqual(unchanged(thing), before)

    def test_large_systems(self):
        for system in large_systems():
            for question in questions_of(system)[::9]:
                self.assertIs(is_true(system, answer_of(system, question)), True)

    def test_what_is_no_question(self):
        for thing, values in (
            (TWO, EVERYTHING + (
                ("cuts", True, 1, "plain"), ("cuts", 2, True, "plain"), ["cuts", 2, 1, "plain"], ("cuts", 2, 1, "flat"),
                ("cuts", 1, 1, "plain"), ("cuts", 5, 1, "plain"), ("cuts", 2, 0, "plain"), ("cuts", 2, 6, "plain"),
                ("no cuts", 2, 1, "plain"), ("fewest", 2, "plain", 1), ("fewest", 5, "plain"), ("fewest", 2, None),
                ("lock", (0,)), ("room", ()), SYSTEM, TWO,
            )),
            (SYSTEM, EVERYTHING + (
                ("threat", True, 1), ("threat", 1, True), ("threat", 0, 0), ["threat", 1, 1], ("safe", 1, 1),
                ("made", [0], 0), ("made", (0,), False), ("made", (False,), 0), ("made", (), 0), ("made", (1, 0), 0),
                ("not made", (0,), 0), ("lock", ()), ("lock", (3,)), ("lock", (True,)), ("no lock", (0,)), ("lock", [0]),
                ("room", (2,)), ("room", (1, 0)), ("room", [0]), ("room", (False,)), ("room", (), 1),
                ("cuts", 2, 1, "plain"), ("fewest", 2, "plain"), SYSTEM, TWO,
            )),
        ):
            for value in values:
                before = unchanged(value)
                with self.assertRaises(InvalidQuestion) as caught:
                    answer_of(thing, value)
                self.assertIs(type(caught.exception), InvalidQuestion)
                self.assertIs(caught.exception.value, value)
                self.assertEqual(unchanged(value), before)

    def test_arguments(self):
        self.assertEqual(answer_of(question=("room", ()), thing=SYSTEM), ("room", (), 1))
        for question in (Row(("lock", Row((0, 1)))), Row(("room", Row((0, 1)))), Row(("made", Row((2,)), 0))):
            claim = answer_of(SYSTEM, question)
            self.assertIs(type(claim), tuple)
            self.assertIs(type(claim[1]), tuple)
            self.assertTrue(is_plain(claim[1:]))


if __name__ == "__main__":
    unittest.main()
