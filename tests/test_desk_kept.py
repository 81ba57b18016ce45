"""Tests of what a desk undoes and of what it keeps: [17], [18], and promise (11)."""

import unittest
from random import Random

from chambercuts.claims import answer_of, is_question
from chambercuts.desk import Desk, same_state
from chambercuts.errors import LockError, NothingToUndo
from chambercuts.papers import claim_holds, paper_of
from chambercuts.systems import System
from chambercuts.tables import Table
from tests.desks import Refusing, left_to_redo, shown
from tests.plain_claims import is_paper, is_true, questions_of
from tests.plain_desk import PlainDesk
from tests.plainly import all_locks, bunches, cuts_of
from tests.sample_systems import APART, APART_CUTS, ONE, TWO, TWO_CUTS, odd_systems, small_systems, some_systems
from tests.samples import changes, is_plain_with_words, unchanged

SYSTEM = System(TWO, 2, TWO_CUTS)
# Key 1 is out of the lock of key 0 by the chamber 1 alone.
BESIDE = System(Table(2, ((0,),)), 3, ((0, 0), (0, 1)))
LOCK = ("lock", (0,))


def some_deed(random, desk):
    """Return the name and the arguments of a call that a desk may let."""
    system = desk.system
    name = random.choice(
        ("issue", "issue", "mount", "revoke", "unmount", "recut", "recut", "watch", "watch", "leave", "undo", "undo", "redo")
    )
    key, lock = random.randrange(system.table.many), random.randrange(len(system.table.rows))
    cut = random.choice(cuts_of(system))
    if name == "issue":
        return name, [random.choice(all_locks(system)), cut]
    if name == "recut":
        return name, [key, cut]
    if name == "watch":
        return name, [random.choice(questions_of(system))]
    if name == "leave":
        return name, [random.choice(desk.watched)] if desk.watched else [LOCK]
    return name, {"mount": [random.choice(bunches(system))], "revoke": [key], "unmount": [lock]}.get(name, [])


def some_call(random, desk):
    """Return the name and the arguments of some call, now and then of one with a wrong argument."""
    name, arguments = some_deed(random, desk)
    if arguments and random.randrange(8) == 0:
        at = random.randrange(len(arguments))
        arguments[at] = random.choice(list(changes(arguments[at])))
    return name, arguments


class UndoAndRedo(Refusing):

    def test_by_hand(self):
        desk = Desk(SYSTEM)
        self.assert_raises(NothingToUndo, "undo", desk, "undo")
        self.assert_raises(NothingToUndo, "redo", desk, "redo")
        desk.issue((), (1, 1))
        desk.mount((3,))
        desk.watch(("lock", (3,)))
        last = desk.system
        self.assertEqual(desk.many, 3)
        self.assert_raises(NothingToUndo, "redo", desk, "redo")
        for many, rows, watched in ((2, 3, ()), (1, 2, ()), (0, 2, ())):
            self.assertIsNone(desk.undo())
            self.assertEqual(desk.many, many)
            self.assertEqual(len(desk.system.table.rows), rows)
            self.assertEqual(desk.watched, watched)
        self.assertEqual(desk.system, SYSTEM)
        self.assert_raises(NothingToUndo, "undo", desk, "undo")
        for many in (1, 2, 3):
            self.assertIsNone(desk.redo())
            self.assertEqual(desk.many, many)
        self.assertEqual(desk.system, last)
        self.assertEqual(desk.watched, (("lock", (3,)),))
        self.assert_raises(NothingToUndo, "redo", desk, "redo")

    def test_a_new_deed_ends_what_can_be_redone(self):
        for name, arguments in (
            ("issue", [(0,), (0, 1)]), ("mount", [(2,)]), ("revoke", [3]), ("unmount", [0]), ("recut", [0, (0, 0)]),
            ("watch", [("room", ())]), ("watch", [LOCK]), ("leave", [LOCK]),
        ):
            desk = Desk(SYSTEM)
            desk.watch(LOCK)
            desk.issue((), (1, 1))
            desk.mount((0,))
            desk.mount((1,))
            desk.undo()
            desk.undo()
            self.assertEqual(left_to_redo(desk), 2)
            getattr(desk, name)(*arguments)
            self.assertEqual(desk.many, 3)
            self.assert_raises(NothingToUndo, "redo", desk, "redo")
            desk.undo()
            self.assertEqual(desk.many, 2)
            self.assertEqual(left_to_redo(desk), 1)

    def test_a_call_that_raises_ends_nothing(self):
        desk = Desk(SYSTEM)
        desk.mount((0,))
        desk.undo()
        for name, arguments in (
            ("issue", [(5,), (0, 0)]), ("issue", [(), (0, 0)]), ("issue", [(), (0, 2)]), ("mount", [()]),
            ("mount", [(1, 2)]), ("revoke", [3]), ("revoke", [True]), ("unmount", [2]), ("recut", [3, (0, 0)]),
            ("recut", [0, (0, 2)]), ("recut", [1, (1, 0)]), ("watch", [None]), ("leave", [LOCK]), ("claim", [LOCK]),
            ("paper", [LOCK]), ("undo", []),
        ):
            before = shown(desk)
            with self.assertRaises(LockError):
                getattr(desk, name)(*arguments)
            self.assertEqual(shown(desk), before)
        desk.redo()
        self.assertEqual(desk.system.table.rows, ((0, 1), (0, 2), (0,)))

    def test_deeds_by_which_nothing_changes(self):
        desk = Desk(SYSTEM)
        desk.watch(LOCK)
        desk.watch(LOCK)
        desk.recut(1, (0, 1))
        self.assertEqual((desk.many, desk.system, desk.watched), (3, SYSTEM, (LOCK,)))
        desk.undo()
        desk.undo()
        self.assertEqual((desk.many, desk.system, desk.watched), (1, SYSTEM, (LOCK,)))
        desk.undo()
        self.assertEqual((desk.many, desk.system, desk.watched), (0, SYSTEM, ()))

    def test_sixty_deeds_and_back(self):
        desk = Desk(SYSTEM)
        shows = [(unchanged(desk.system), desk.watched)]
        for turn in range(20):
            desk.mount(((0,), (1,), (2,))[turn % 3])
            shows.append((unchanged(desk.system), desk.watched))
            desk.recut(0, ((1, 1), (0, 0))[turn % 2]) if turn % 3 else desk.watch(questions_of(SYSTEM)[turn])
            shows.append((unchanged(desk.system), desk.watched))
            desk.unmount(2)
            shows.append((unchanged(desk.system), desk.watched))
        self.assertEqual(desk.many, 60)
        for many in reversed(range(60)):
            desk.undo()
            self.assertEqual((desk.many, unchanged(desk.system), desk.watched), (many,) + shows[many])
        self.assert_raises(NothingToUndo, "undo", desk, "undo")
        for many in range(1, 61):
            desk.redo()
            self.assertEqual((desk.many, unchanged(desk.system), desk.watched), (many,) + shows[many])
        self.assert_raises(NothingToUndo, "redo", desk, "redo")


class WhatIsKept(Refusing):

    def assert_kept(self, desk, question, claim, paper, word):
        self.assertEqual(desk.claim(question), claim)
        self.assertEqual(unchanged(desk.paper(question)), unchanged(paper))
        self.assertEqual(desk.report(), (word,))

    def test_a_paper_that_holds_stays_where_another_one_would_be_told(self):
        desk = Desk(BESIDE)
        desk.watch(LOCK)
        self.assert_kept(desk, LOCK, LOCK, (1,), "new")
        desk.recut(1, (1, 1))
        self.assertEqual(paper_of(desk.system, LOCK), (0,))
        self.assert_kept(desk, LOCK, LOCK, (1,), "kept")
        # By undo and redo, too.
        desk.undo()
        self.assert_kept(desk, LOCK, LOCK, (1,), "kept")
        desk.redo()
        self.assert_kept(desk, LOCK, LOCK, (1,), "kept")
        # A question that comes to be watched anew gets the paper that is told now.
        desk.leave(LOCK)
        desk.watch(LOCK)
        self.assert_kept(desk, LOCK, LOCK, (0,), "new")

    def test_a_paper_that_holds_no_longer_is_renewed(self):
        desk = Desk(BESIDE)
        desk.watch(LOCK)
        desk.recut(1, (1, 0))
        self.assert_kept(desk, LOCK, LOCK, (0,), "renewed")
        desk.recut(1, (1, 1))
        self.assert_kept(desk, LOCK, LOCK, (0,), "kept")
        desk.undo()
        desk.undo()
        self.assert_kept(desk, LOCK, LOCK, (1,), "renewed")

    def test_a_claim_that_is_no_longer_true_is_changed(self):
        desk = Desk(System(Table(3, ((0, 1, 2),)), 2, ((0, 0), (0, 1), (1, 0))))
        question = ("lock", (1, 2))
        desk.watch(question)
        self.assert_kept(desk, question, ("no lock", (1, 2)), 0, "new")
        desk.recut(2, (0, 0))
        self.assert_kept(desk, question, ("no lock", (1, 2)), 0, "kept")
        desk.recut(0, (1, 0))
        self.assert_kept(desk, question, question, (0,), "changed")
        desk.recut(0, (1, 1))
        self.assert_kept(desk, question, question, (0,), "kept")
        desk.undo()
        self.assert_kept(desk, question, question, (0,), "kept")
        desk.undo()
        self.assert_kept(desk, question, ("no lock", (1, 2)), 0, "changed")

    def test_the_number_of_a_claim_may_change(self):
        desk = Desk(SYSTEM)
        question = ("room", ())
        desk.watch(question)
        self.assertEqual(desk.claim(question), ("room", (), 1))
        desk.mount((0, 1, 2))
        self.assertEqual(desk.report(), ("changed",))
        self.assertEqual(desk.claim(question), ("room", (), 0))
        desk.unmount(2)
        self.assertEqual(desk.report(), ("changed",))
        self.assertEqual(desk.claim(question), ("room", (), 1))
        desk.mount((1,))
        # Each reason is still true.
        self.assertEqual(desk.report(), ("kept",))

    def test_room_papers_with_another_true_reason(self):
        system = System(Table(2, ((0,), (0, 1))), 2, ((0,), (1,)))
        desk = Desk(system)
        question = ("room", ())
        desk.watch(question)
        paper = (((0,), ("opens", 0)), ((1,), ("opens", 1)))
        self.assert_kept(desk, question, ("room", (), 0), paper, "new")
        desk.mount((1,))
        self.assert_kept(desk, question, ("room", (), 0), paper, "kept")
        desk.unmount(0)
        # The lock 0 is opened by both now, and the lock 1 by the second one.
        self.assertEqual(paper_of(desk.system, question), (((0,), ("opens", 0)), ((1,), ("opens", 0))))
        self.assert_kept(desk, question, ("room", (), 0), paper, "kept")
        desk.unmount(0)
        self.assert_kept(desk, question, ("room", (), 1), (((0,), ("fits",)), ((1,), ("opens", 0))), "changed")

    def test_a_question_that_becomes_none_and_is_one_again(self):
        desk = Desk(BESIDE)
        question = ("lock", (1,))
        desk.watch(question)
        self.assert_kept(desk, question, question, (1,), "new")
        desk.recut(1, (1, 1))
        self.assert_kept(desk, question, question, (1,), "kept")
        desk.revoke(1)
        self.assert_kept(desk, question, None, None, "none")
        desk.recut(0, (0, 0))
        self.assert_kept(desk, question, None, None, "none")
        desk.undo()
        self.assert_kept(desk, question, None, None, "none")
        # What was kept is forgotten, so it is the paper that is told now.
        desk.undo()
        self.assert_kept(desk, question, question, (0,), "changed")
        desk.redo()
        self.assert_kept(desk, question, None, None, "none")
        desk.issue((), (0, 1))
        self.assert_kept(desk, question, question, (1,), "changed")
        self.assertEqual(desk.watched, (question,))

    def test_a_question_that_comes_to_be_watched_as_none(self):
        desk = Desk(BESIDE)
        question = ("lock", (1,))
        desk.watch(question)
        desk.revoke(1)
        desk.leave(question)
        self.assertEqual(desk.report(), ())
        desk.undo()
        self.assert_kept(desk, question, None, None, "new")
        desk.redo()
        desk.undo()
        self.assert_kept(desk, question, None, None, "new")
        desk.undo()
        self.assert_kept(desk, question, question, (1,), "changed")
        desk.undo()
        self.assertEqual((desk.watched, desk.report()), ((), ()))
        desk.redo()
        self.assert_kept(desk, question, question, (1,), "new")

    def test_watch_of_one_that_is_watched_looks_at_all(self):
        desk = Desk(BESIDE)
        desk.watch(LOCK)
        desk.watch(("room", ()))
        desk.recut(1, (1, 0))
        self.assertEqual(desk.report(), ("renewed", "kept"))
        desk.watch(LOCK)
        self.assertEqual(desk.report(), ("kept", "kept"))

    def test_numbers_that_stand_for_others_now(self):
        # The key 1 is taken out, and the question goes for the key that was 2.
        desk = Desk(System(Table(3, ((0, 1, 2), (0,))), 3, ((1,), (2,), (0,))))
        question = ("threat", 1, 1)
        desk.watch(question)
        self.assert_kept(desk, question, ("safe", 1, 1), 0, "new")
        desk.revoke(1)
        self.assertEqual(desk.watched, (question,))
        self.assert_kept(desk, question, ("threat", 1, 1), (1,), "changed")
        desk.unmount(0)
        self.assert_kept(desk, question, None, None, "none")

    def test_a_key_that_is_in_the_row_now(self):
        desk = Desk(System(Table(2, ((0,), (0, 1))), 2, ((0,), (1,))))
        question = ("threat", 1, 0)
        desk.watch(question)
        self.assert_kept(desk, question, ("safe", 1, 0), 0, "new")
        desk.unmount(0)
        self.assert_kept(desk, question, None, None, "none")
        self.assertIs(is_question(desk.system, question), False)

    def test_the_very_paper(self):
        desk = Desk(SYSTEM)
        desk.watch(("room", (0,)))
        paper = desk.paper(("room", (0,)))
        for name, arguments in (("mount", [(2,)]), ("unmount", [2]), ("undo", []), ("redo", []), ("recut", [0, (0, 0)])):
            getattr(desk, name)(*arguments)
            self.assertEqual(desk.report(), ("kept",))
            self.assertIs(desk.paper(("room", (0,))), paper)


class WalksOfDeeds(unittest.TestCase):

    def assert_same(self, desk, plain):
        self.assertEqual(unchanged(desk.system), unchanged(plain.system))
        self.assertEqual(unchanged(desk.watched), unchanged(plain.watched))
        self.assertEqual(desk.many, plain.at)
        self.assertEqual(desk.report(), plain.words)
        self.assertTrue(is_plain_with_words((desk.watched, desk.report())))
        for question in desk.watched:
            claim, paper = plain.kept[question]
            self.assertEqual(unchanged(desk.claim(question)), unchanged(claim))
            self.assertEqual(unchanged(desk.paper(question)), unchanged(paper))

    def assert_true(self, desk):
        """Assert that what is kept for each watched question is its one true claim, with a paper that holds."""
        for question in desk.watched:
            claim, paper = desk.claim(question), desk.paper(question)
            if is_question(desk.system, question):
                self.assertEqual(claim, answer_of(desk.system, question))
                self.assertTrue(is_true(desk.system, claim))
                self.assertTrue(is_paper(desk.system, claim, paper))
                self.assertIs(claim_holds(desk.system, claim, paper), True)
            else:
                self.assertIsNone(claim)
                self.assertIsNone(paper)

    def step(self, desk, plain, name, arguments):
        """Do the same at both desks; return whether it was a deed."""
        before = [unchanged(argument) for argument in arguments]
        try:
            plain.do(name, *arguments)
        except LockError as error:
            with self.assertRaises(LockError) as caught:
                getattr(desk, name)(*arguments)
            self.assertIs(type(caught.exception), type(error))
            self.assertEqual(unchanged(list(vars(caught.exception).values())), unchanged(list(vars(error).values())))
            done = False
        else:
            self.assertIsNone(getattr(desk, name)(*arguments))
            done = True
        self.assertEqual([unchanged(argument) for argument in arguments], before)
        self.assert_same(desk, plain)
        return done

    def walk(self, system, seed, most):
        random = Random(seed)
        desk, plain = Desk(system), PlainDesk(system)
        words = set()
        deeds = calls = 0
        while deeds < most and calls < 4 * most:
            name, arguments = some_call(random, desk)
            if name == "watch" and len(desk.watched) == 8:
                name, arguments = "leave", [desk.watched[seed % 8]]
            deeds += self.step(desk, plain, name, arguments)
            calls += 1
            words.update(desk.report())
            if calls % 7 == 0:
                self.assert_true(desk)
        return words

    def test_sixty_deeds_of_many_kinds(self):
        words = set()
        systems = [SYSTEM, BESIDE, System(ONE, 2, ((0,),)), System(ONE, 3, ((1, 2),)), System(APART, 2, APART_CUTS)]
        systems += small_systems()[::180] + odd_systems()[::20]
        for seed, system in enumerate(systems * 3):
            words |= self.walk(system, seed, 60)
        self.assertEqual(words, {"new", "none", "kept", "renewed", "changed"})

    def test_sixty_deeds_of_larger_systems(self):
        for seed, system in enumerate(some_systems()[::9]):
            self.walk(system, 1000 + seed, 25)


class SameState(unittest.TestCase):

    def assert_same_state(self, one, other, told):
        before = shown(one), shown(other)
        self.assertIs(same_state(one, other), told)
        self.assertIs(same_state(other, one), told)
        self.assertEqual((shown(one), shown(other)), before)

    def desk(self, *deeds, system=SYSTEM):
        desk = Desk(system)
        for name, *arguments in deeds:
            getattr(desk, name)(*arguments)
        return desk

    def test_desks_in_the_same_state(self):
        for one, other in (
            ((), ()),
            ((("watch", LOCK),), (("watch", LOCK),)),
            # Whatever the deeds were.
            ((("watch", LOCK), ("watch", LOCK)), (("recut", 0, (0, 0)), ("watch", LOCK))),
            ((("mount", (0,)), ("undo",)), (("issue", (), (1, 1)), ("undo",))),
            ((("mount", (0,)), ("unmount", 2)), (("issue", (), (1, 1)), ("revoke", 3))),
            # The words of the report are no part of it.
            ((("watch", LOCK), ("recut", 0, (0, 0))), (("recut", 0, (0, 0)), ("watch", LOCK))),
        ):
            self.assert_same_state(self.desk(*one), self.desk(*other), True)
        desk = self.desk()
        self.assertIs(same_state(desk, desk), True)

    def test_desks_that_differ(self):
        for one, other in (
            ((("mount", (0,)),), (("mount", (1,)),)),
            ((("recut", 0, (1, 1)),), (("recut", 0, (0, 0)),)),
            ((("watch", LOCK),), (("watch", ("lock", (1,))),)),
            ((("watch", LOCK), ("watch", ("room", ()))), (("watch", ("room", ())), ("watch", LOCK))),
            ((("watch", LOCK),), (("watch", LOCK), ("watch", LOCK))),
            ((), (("recut", 0, (0, 0)),)),
            ((), (("mount", (0,)), ("undo",))),
            ((("mount", (0,)), ("mount", (0,)), ("undo",), ("undo",)), (("mount", (0,)), ("undo",))),
            ((("watch", LOCK),), (("mount", (0,)),)),
        ):
            self.assert_same_state(self.desk(*one), self.desk(*other), False)
        self.assert_same_state(self.desk(), self.desk(system=System(TWO, 3, TWO_CUTS)), False)

    def test_desks_that_keep_other_papers(self):
        one = self.desk(("watch", LOCK), ("recut", 1, (1, 1)), system=BESIDE)
        other = self.desk(("recut", 1, (1, 1)), ("watch", LOCK), system=BESIDE)
        self.assertEqual((one.system, one.watched, one.many), (other.system, other.watched, other.many))
        self.assertEqual(one.claim(LOCK), other.claim(LOCK))
        self.assert_same_state(one, other, False)

    def test_questions_that_are_none_now(self):
        question = ("lock", (1,))
        one = self.desk(("watch", question), ("revoke", 1), system=BESIDE)
        other = self.desk(("watch", question), ("revoke", 1), system=BESIDE)
        self.assert_same_state(one, other, True)

    def test_walks(self):
        for seed in range(6):
            random = Random(seed)
            one, other = Desk(SYSTEM), Desk(SYSTEM)
            for _ in range(40):
                name, arguments = some_deed(random, one)
                try:
                    getattr(one, name)(*arguments)
                except LockError:
                    continue
                self.assertIs(same_state(one, other), False)
                getattr(other, name)(*arguments)
                self.assertIs(same_state(one, other), True)


class ManyDesks(unittest.TestCase):

    def test_each_keeps_its_own(self):
        systems = [SYSTEM, SYSTEM, BESIDE, System(APART, 2, APART_CUTS)]
        desks = [Desk(system) for system in systems]
        plain = [PlainDesk(system) for system in systems]
        walks = WalksOfDeeds()
        random = Random(7)
        for turn in range(160):
            at = turn % len(desks)
            others = [shown(desk) for desk in desks if desk is not desks[at]]
            name, arguments = some_call(random, desks[at])
            walks.step(desks[at], plain[at], name, arguments)
            self.assertEqual([shown(desk) for desk in desks if desk is not desks[at]], others)

    def test_two_desks_of_one_system(self):
        one, other = Desk(SYSTEM), Desk(SYSTEM)
        one.watch(LOCK)
        one.mount((0,))
        self.assertEqual((other.system, other.watched, other.many, other.report()), (SYSTEM, (), 0, ()))
        third = Desk(one.system)
        self.assertEqual((third.watched, third.many), ((), 0))
        third.unmount(0)
        self.assertEqual(len(one.system.table.rows), 3)

    def test_the_system_itself_never_changes(self):
        before = unchanged(SYSTEM)
        desk = Desk(SYSTEM)
        for name, arguments in (
            ("issue", [(), (1, 1)]), ("mount", [(3,)]), ("recut", [0, (0, 0)]), ("unmount", [0]), ("revoke", [1]), ("undo", []),
        ):
            getattr(desk, name)(*arguments)
        self.assertEqual(unchanged(SYSTEM), before)


if __name__ == "__main__":
    unittest.main()
