"""Tests of papers: [15], [16], and promise (10)."""

import unittest
from itertools import islice, product

from chambercuts.claims import answer_of
from chambercuts.errors import InvalidQuestion
from chambercuts.later import key_cuts
from chambercuts.papers import claim_holds, paper_of
from chambercuts.partings import cuts_for
from chambercuts.systems import System
from chambercuts.tables import Table, outs
from chambercuts.walls import walls
from tests.plain_claims import claims_for, is_paper, is_reason, is_true, questions_of
from tests.plainly import all_cuts, all_key_cuts, all_locks, all_rows, cuts_of
from tests.sample_systems import (
    APART, APART_CUTS, FULL, ONE, TWO, TWO_CUTS, deep_systems, large_systems, odd_systems, small_systems, some_systems,
)
from tests.samples import EVERYTHING, Row, changes, in_rows, is_plain_with_words, unchanged

SYSTEM = System(TWO, 2, TWO_CUTS)
NUMBERS = (-2, -1, 0, 1, 2, 3, 4, 5, 10 ** 12 - 1, True, False, None, "0", (0,), [0], ())


def some_tables():
    """Return tables of 1 to 5 keys and locks."""
    tables = [ONE, TWO, APART, FULL, Table(3, ((0, 1), (0, 2), (1, 2))), Table(2, ((0,),)), Table(2, ((0,), (1,)))]
    for many in (3, 4, 5):
        rows = all_rows(many)
        tables.append(Table(many, tuple(rows[(7 * at + many) % len(rows)] for at in range(many))))
    return tables


def check_systems():
    return some_systems()[::5] + odd_systems()[::9] + small_systems()[::120] + deep_systems()[::12]


def true_reasons(system, locks, cut, able):
    """Return all reasons that are true of a cut."""
    many, rows = range(system.table.many), range(len(system.table.rows))
    reasons = [("fits",)] + [("opens", lock) for lock in rows]
    reasons += [("lets", key, lock) for key, lock in product(many, rows)]
    return [reason for reason in reasons if is_reason(system, locks, cut, reason, able)]


class TheirPapers(unittest.TestCase):

    def assert_paper(self, thing, question):
        claim = answer_of(thing, question)
        paper = paper_of(thing, question)
        self.assertTrue(is_plain_with_words(paper))
        self.assertTrue(is_paper(thing, claim, paper), (question, paper))
        self.assertIs(claim_holds(thing, claim, paper), True)
        self.assertIs(claim_holds(thing, in_rows(claim), in_rows(paper)), True)
        self.assertEqual(paper_of(thing, question), paper)
        for other in claims_for(thing, question):
            if other != claim:
                self.assertIs(claim_holds(thing, other, paper), False, (other, paper))

    def test_of_tables(self):
        for table in some_tables():
            before = unchanged(table)
            for question in questions_of(table):
                self.assert_paper(table, question)
            self.assertEqual(unchanged(table), before)

    def test_of_systems(self):
        for system in check_systems():
            before = unchanged(system)
            for question in questions_of(system):
                self.assert_paper(system, question)
            self.assertEqual(unchanged(system), before)

    def test_of_large_systems(self):
        for system in large_systems():
            for question in questions_of(system)[::11] + [("room", ())]:
                self.assert_paper(system, question)

    def test_by_hand(self):
        for thing, question, paper in (
            (SYSTEM, ("lock", (0, 1)), (0,)),
            (SYSTEM, ("lock", (0, 1, 2)), ()),
            (SYSTEM, ("lock", (0,)), (1, 0)),
            (SYSTEM, ("lock", (1, 2)), 0),
            (SYSTEM, ("threat", 1, 1), 1),
            (System(TWO, 2, ((1, 1), (1, 0), (0, 1))), ("threat", 1, 1), (1, 1)),
            (SYSTEM, ("made", (2,), 0), 0),
            (SYSTEM, ("made", (1, 2), 0), (0, 0)),
            (System(Table(1, ((0,),)), 2, ((0,),)), ("room", ()), (((0,), ("opens", 0)), ((1,), ("fits",)))),
            (System(Table(1, ((0,),)), 2, ((0,),)), ("room", (0,)), (((0,), ("fits",)), ((1,), ("fits",)))),
            (System(Table(2, ((0,),)), 2, ((0,), (1,))), ("room", (0,)), (((0,), ("fits",)), ((1,), ("lets", 1, 0)))),
            (ONE, ("fewest", 2, "plain"), (((0,),), ())),
        ):
            self.assertEqual(paper_of(thing, question), paper)

    def test_what_is_no_question(self):
        for thing in (TWO, SYSTEM):
            for value in EVERYTHING + (
                ("cuts", True, 1, "plain"), ["cuts", 2, 1, "plain"], ("no cuts", 2, 1, "plain"), ("lock", (3,)),
                ("lock", (True,)), ("no lock", (0,)), ("lock", [0]), ("room", (2,)), ("room", (), 1), ("safe", 1, 1),
                ("threat", 0, 0), ("threat", True, 1), ("fewest", 2, "plain", 2), ("made", (), 0), ("made", (0,), 2),
            ) + tuple(questions_of(SYSTEM if thing is TWO else TWO)[:5]):
                before = unchanged(value)
                with self.assertRaises(InvalidQuestion) as caught:
                    paper_of(thing, value)
                self.assertIs(type(caught.exception), InvalidQuestion)
                self.assertIs(caught.exception.value, value)
                self.assertEqual(unchanged(value), before)

    def test_arguments(self):
        self.assertEqual(paper_of(question=("lock", (1, 2)), thing=SYSTEM), 0)
        self.assertIs(claim_holds(paper=0, claim=("no lock", (1, 2)), thing=SYSTEM), True)
        paper = paper_of(SYSTEM, Row(("lock", Row((0,)))))
        self.assertEqual(paper, (1, 0))
        self.assertTrue(is_plain_with_words(paper))


class PapersOfSystems(unittest.TestCase):

    def assert_told(self, system, claim, paper):
        told = claim_holds(system, claim, paper)
        self.assertIs(told, is_paper(system, claim, paper), (claim, paper))
        if told:
            self.assertTrue(is_true(system, claim))

    def test_numbers_and_cuts_and_chambers(self):
        for system in small_systems()[::60] + odd_systems()[::25] + some_systems()[::16]:
            cuts = cuts_of(system)[::1 if len(cuts_of(system)) < 32 else 7]
            chambers = [some for length in range(3) for some in product(range(-1, 4), repeat=length)]
            for question in questions_of(system):
                for claim in claims_for(system, question):
                    for paper in NUMBERS + tuple(cuts) + tuple(chambers):
                        self.assert_told(system, claim, paper)

    def test_papers_that_are_changed_at_one_place(self):
        for system in [SYSTEM] + small_systems()[::200] + odd_systems()[::40]:
            for question in questions_of(system)[::2]:
                claim = answer_of(system, question)
                paper = paper_of(system, question)
                for other in islice(changes(paper), 0, None, 1 if question[0] != "room" else 7):
                    before = unchanged(other)
                    self.assert_told(system, claim, other)
                    self.assertEqual(unchanged(other), before)

    def test_any_value(self):
        for system in (SYSTEM, System(ONE, 2, ((0,),)), System(APART, 2, APART_CUTS)):
            for question in questions_of(system)[::3]:
                for claim in claims_for(system, question):
                    for paper in EVERYTHING + (system, TWO, (system,), ((0, system),)):
                        self.assert_told(system, claim, paper)

    def test_papers_of_other_making(self):
        system = System(Table(4, ((0, 1),)), 4, ((3, 0), (1, 2), (0, 2), (2, 1)))
        for claim, papers in (
            (("threat", 2, 0), ((1, 2), (3, 2))),
            (("made", (0, 1), 0), ((1, 0), (1, 2), (3, 0), (3, 2))),
            (("lock", (0,)), ((0, 0, 0), (1, 1, 1), (0, 1, 0), (1, 0, 1))),
            (("lock", (0, 1)), ((0, 0), (0, 1))),
            (("not made", (2, 3), 0), (0,)),
            (("not made", (3,), 0), (0, 1)),
        ):
            for paper in papers:
                self.assertIs(claim_holds(system, claim, paper), True, (claim, paper))
        # Three chambers bar the pair, and two keys fall into the stacks.
        system = System(Table(2, ((0,),)), 2, ((0, 0, 0, 1), (1, 1, 1, 0)))
        self.assertEqual([claim_holds(system, ("safe", 1, 0), at) for at in range(-1, 5)], [
            False, True, True, True, False, False,
        ])
        system = System(Table(3, ((0, 1, 2),)), 2, ((0,), (0,), (0,)))
        self.assertEqual([claim_holds(system, ("no lock", (1,)), key) for key in range(-1, 4)], [
            False, True, False, True, False,
        ])

    def test_bools_are_no_numbers(self):
        system = System(Table(3, ((0,),)), 2, ((0, 0), (1, 1), (1, 1)))
        for claim, right, wrong in (
            (("safe", 1, 0), 0, False), (("safe", 1, 0), 1, True), (("not made", (1, 2), 0), 1, True),
            (("no lock", (2,)), 1, True), (("lock", (0,)), (0, 1), (0, True)), (("lock", (0,)), (0, 1), (False, 1)),
            (("made", (0,), 0), (0, 0), (0, False)),
        ):
            self.assertIs(claim_holds(system, claim, right), True)
            self.assertIs(claim_holds(system, claim, wrong), False)

    def test_what_is_no_claim(self):
        for claim, paper in (
            (("threat", 1, 1), 1), (("safe", 1, 0), 0), (("safe", True, 1), 1), (["safe", 1, 1], 1),
            (("safe", 1, 1, 1), 1), (("lock", (0, 1), 0), (0,)), (("lock", [0, 1]), (0,)), (("lock", (0, 1)), [0]),
            (("lock", (0, True)), (0,)), (("no lock", (1, 2), 0), 0), (("fits",), ()), ((), ()), (None, None),
            (("room", ()), paper_of(SYSTEM, ("room", ()))), (("room", (), True), paper_of(SYSTEM, ("room", ()))),
            (("room", [], 1), paper_of(SYSTEM, ("room", ()))), (("room", (), 1, 1), paper_of(SYSTEM, ("room", ()))),
            (("cuts", 2, 2, "plain"), TWO_CUTS), (("fewest", 2, "plain", 2), paper_of(TWO, ("fewest", 2, "plain"))),
        ):
            self.assertIs(claim_holds(SYSTEM, claim, paper), False)
        self.assertIs(claim_holds(SYSTEM, ("safe", 1, 1), 1), True)
        self.assertIs(claim_holds(SYSTEM, ("room", (), 1), paper_of(SYSTEM, ("room", ()))), True)
        for claim in EVERYTHING:
            for paper in (0, 1, (), (0,), ((),), None, TWO_CUTS):
                self.assertIs(claim_holds(SYSTEM, claim, paper), False)


class PapersForRoom(unittest.TestCase):

    def test_any_true_reasons_will_do(self):
        for system in [SYSTEM, System(APART, 2, APART_CUTS)] + small_systems()[::150] + odd_systems()[::15]:
            for locks in all_locks(system)[::2]:
                able = all_key_cuts(system, locks)
                cuts = cuts_of(system)
                reasons = [true_reasons(system, locks, cut, able) for cut in cuts]
                for turn in range(max(len(some) for some in reasons)):
                    paper = tuple((cut, some[turn % len(some)]) for cut, some in zip(cuts, reasons))
                    for many in {0, len(able), len(able) + 1, abs(len(able) - 1), len(cuts)}:
                        self.assertIs(claim_holds(system, ("room", locks, many), paper), many == len(able))

    def test_no_reason_that_is_not_true_will_do(self):
        for system in [SYSTEM, System(APART, 2, APART_CUTS)] + odd_systems()[::30]:
            many, rows = range(-1, system.table.many + 1), range(-1, len(system.table.rows) + 1)
            every = [("fits",), ("fits", 0), ("opens",), ("lets", 0), (), None, "fits", ["fits"], (("fits",),)]
            every += [("opens", lock) for lock in rows] + [("lets", key, lock) for key, lock in product(many, rows)]
            every += [("lets", lock, key) for key, lock in product(many, rows)] + [("opens", True), ("lets", True, 0)]
            every += [("lets", 0, False), ("opens", (0,)), ("opens", None), ("opens", 0, 0), ("lets", 0, 0, 0)]
            for locks in all_locks(system)[::3]:
                paper = paper_of(system, ("room", locks))
                able = all_key_cuts(system, locks)
                claim = ("room", locks, len(able))
                for at, (cut, _) in list(enumerate(paper))[::1 + len(paper) // 12]:
                    for reason in every:
                        other = paper[:at] + ((cut, reason),) + paper[at + 1:]
                        told = is_reason(system, locks, cut, reason, able)
                        self.assertIs(claim_holds(system, claim, other), told, (cut, reason))

    def test_no_claim_of_more_or_fewer_cuts_will_do(self):
        # Whatever one reason is made, so that as many cuts are told to fit as the claim has it.
        for system in [SYSTEM, System(APART, 2, APART_CUTS)] + odd_systems()[::30]:
            for locks in all_locks(system)[::3]:
                paper = paper_of(system, ("room", locks))
                able = len(key_cuts(system, locks))
                for at, (cut, reason) in list(enumerate(paper))[::1 + len(paper) // 12]:
                    many = able + 1 if reason != ("fits",) else max(able - 1, 0)
                    for other in (("fits",), ("opens", 0), ("lets", 0, 0), ("lets", 1, 0)):
                        told = paper[:at] + ((cut, other),) + paper[at + 1:]
                        self.assertIs(claim_holds(system, ("room", locks, many), told), False)

    def test_all_cuts_and_no_more(self):
        for system in (SYSTEM, System(APART, 2, APART_CUTS), System(ONE, 3, ((1, 2),))):
            for locks in all_locks(system)[::4]:
                paper = paper_of(system, ("room", locks))
                claim = ("room", locks, len(key_cuts(system, locks)))
                self.assertIs(claim_holds(system, claim, paper), True)
                for other in (
                    (), paper[1:], paper[:-1], paper[::-1], paper + paper, paper + paper[:1], paper[1:] + paper[:1],
                    paper[:1] + paper[:-1], list(paper), (paper,), paper[:1] + paper[2:], len(paper),
                    tuple(cut for cut, _ in paper), tuple(reason for _, reason in paper),
                    tuple((reason, cut) for cut, reason in paper), tuple(list(pair) for pair in paper),
                    tuple(pair + (0,) for pair in paper), tuple((list(cut), reason) for cut, reason in paper),
                    tuple((cut + (0,), reason) for cut, reason in paper),
                    tuple((tuple(bool(depth) for depth in cut), reason) for cut, reason in paper),
                ):
                    self.assertIs(claim_holds(system, claim, other), False)

    def test_five_chambers_of_four_depths(self):
        system = large_systems()[-1]
        paper = paper_of(system, ("room", (0,)))
        self.assertEqual(len(paper), 1024)
        claim = answer_of(system, ("room", (0,)))
        self.assertIs(claim_holds(system, claim, paper), True)
        self.assertIs(claim_holds(system, claim, paper + paper), False)
        self.assertIs(claim_holds(system, claim, paper[:1023]), False)
        at = 700
        other = paper[:at] + ((paper[at][0], ("opens", 0)),) + paper[at + 1:]
        self.assertIs(claim_holds(system, claim, other), False)


class PapersOfTables(unittest.TestCase):

    def test_all_cuts_of_small_tables(self):
        for table in (ONE, TWO, Table(2, ((0,),)), Table(2, ((0,), (1,))), Table(3, ((0,), (1,), (2,)))):
            for k, depths in ((1, 2), (1, 3), (2, 2)):
                for cuts in product(all_cuts(k, depths), repeat=table.many):
                    for kind in ("plain", "deep"):
                        told = is_paper(table, ("cuts", depths, k, kind), cuts)
                        self.assertIs(claim_holds(table, ("cuts", depths, k, kind), cuts), told)
                        self.assertIs(claim_holds(table, ("no cuts", depths, k, kind), cuts), False)

    def test_cuts_of_other_chambers_depths_and_kinds(self):
        for table in some_tables():
            for depths, k, kind in product((2, 4), (2, 5), ("plain", "deep")):
                if answer_of(table, ("cuts", depths, k, kind))[0] == "cuts":
                    cuts = cuts_for(table, depths, k, kind)
                    for claim in product(("cuts",), (2, 3, 4), (1, 2, 3, 5), ("plain", "deep")):
                        self.assertIs(claim_holds(table, claim, cuts), is_paper(table, claim, cuts))

    def test_walls_of_other_chambers_depths_and_kinds(self):
        for table in (TWO, APART, Table(3, ((0, 1), (0, 2), (1, 2)))):
            for depths, k, kind in product((2, 3), (1, 2), ("plain", "deep")):
                if answer_of(table, ("cuts", depths, k, kind))[0] == "no cuts":
                    paper = walls(table, depths, k, kind)
                    for claim in product(("no cuts",), (2, 3, 4), (1, 2, 3), ("plain", "deep")):
                        self.assertIs(claim_holds(table, claim, paper), is_paper(table, claim, paper))

    def test_walls_with_needless_lots(self):
        pairs = outs(TWO)
        claim = ("no cuts", 2, 1, "plain")
        for paper, told in (
            (((pairs,), ((pairs[0],), (pairs[1],))), True),
            (((pairs,), ((pairs[0],), pairs, (pairs[1],))), True),
            (((pairs,), ((pairs[0],),)), False),
            (((pairs,), (pairs,)), False),
            ((((pairs[0],), pairs), ((pairs[0],), (pairs[1],))), False),
            (((), ((pairs[0],), (pairs[1],))), False),
            (((pairs,),), False),
            (((pairs,), ((pairs[0],), (pairs[1],)), ()), False),
        ):
            self.assertIs(claim_holds(TWO, claim, paper), told)
            self.assertIs(is_paper(TWO, claim, paper), told)

    def test_papers_for_the_fewest(self):
        for table in some_tables():
            for depths, kind in product((2, 3), ("plain", "deep")):
                claim = answer_of(table, ("fewest", depths, kind))
                cuts, shown = paper_of(table, ("fewest", depths, kind))
                k = claim[3]
                for paper in (
                    (cuts, shown), (cuts, ()), (cuts, ((),)), (cuts, None), (cuts, False), (cuts, 0), (cuts, []), cuts,
                    (cuts,), (cuts, shown, shown), [cuts, shown], (list(cuts), shown), (shown, cuts), (shown, shown),
                    (cuts, cuts), (tuple(cut + (0,) for cut in cuts), shown), (tuple(cut[1:] for cut in cuts), shown),
                    (cuts, shown + ((),)), (cuts, shown[1:]), (cuts[::-1], shown), (), ((), ()), shown, None, k,
                ):
                    told = claim_holds(table, claim, paper)
                    self.assertIs(told, is_paper(table, claim, paper), paper)
                    for other in range(1, 6):
                        if other != k:
                            self.assertIs(claim_holds(table, claim[:3] + (other,), paper), False)
                # One chamber more can be cut, but of one less it can not be shown that there are no cuts.
                if k < 5:
                    more = cuts_for(table, depths, k + 1, kind)
                    for other in ((), shown, shown + shown[-1:], ((outs(table),),) * (k + 1)):
                        self.assertIs(claim_holds(table, claim[:3] + (k + 1,), (more, other)), False)

    def test_papers_that_are_changed_at_one_place(self):
        for table in (ONE, TWO, Table(2, ((0,), (1,))), Table(3, ((0, 1), (0, 2), (1, 2)))):
            for question in questions_of(table)[::3] + [("fewest", 2, "plain"), ("fewest", 3, "deep")]:
                claim = answer_of(table, question)
                for other in islice(changes(paper_of(table, question)), 0, 2000, 3):
                    self.assertIs(claim_holds(table, claim, other), is_paper(table, claim, other), (claim, other))

    def test_any_value(self):
        for table in (ONE, TWO, APART):
            for question in questions_of(table)[::5] + [("fewest", 2, "plain")]:
                for claim in claims_for(table, question):
                    for paper in EVERYTHING + (table, SYSTEM, (table, table)):
                        before = unchanged(paper)
                        self.assertIs(claim_holds(table, claim, paper), is_paper(table, claim, paper))
                        self.assertEqual(unchanged(paper), before)

    def test_what_is_no_claim(self):
        cuts = cuts_for(TWO, 2, 2, "plain")
        self.assertIs(claim_holds(TWO, ("cuts", 2, 2, "plain"), cuts), True)
        for claim in (
            ("cuts", 2, 2), ("cuts", 2, 2, "flat"), ["cuts", 2, 2, "plain"], ("cuts", 2, 2, "plain", 0), ("cut", 2, 2, "plain"),
            ("cuts", 5, 2, "plain"), ("cuts", 1, 2, "plain"), ("fewest", 2, "plain"), (), None, ("lock", (0,)),
        ):
            self.assertIs(claim_holds(TWO, claim, cuts), False)
        one = cuts_for(ONE, 2, 1, "plain")
        self.assertIs(claim_holds(ONE, ("cuts", 2, 1, "plain"), one), True)
        self.assertIs(claim_holds(ONE, ("cuts", 2, True, "plain"), one), False)
        self.assertIs(claim_holds(ONE, ("fewest", 2, "plain", 1), (one, ())), True)
        self.assertIs(claim_holds(ONE, ("fewest", 2, "plain", True), (one, ())), False)
        for claim in EVERYTHING + tuple(questions_of(SYSTEM)):
            for paper in (cuts, 0, (), None, paper_of(TWO, ("fewest", 2, "plain"))):
                self.assertIs(claim_holds(TWO, claim, paper), False)


if __name__ == "__main__":
    unittest.main()
