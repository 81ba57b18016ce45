"""Tests of the desk: [12], [17], [18], and promise (11)."""

import unittest
from itertools import product

from chambercuts.claims import answer_of
from chambercuts.desk import Desk, same_state
from chambercuts.errors import (
    InvalidCut, InvalidKeys, InvalidLocks, InvalidNumber, InvalidQuestion, LockError, NothingToUndo, Undefined,
)
from chambercuts.papers import paper_of
from chambercuts.systems import System
from chambercuts.tables import Table
from tests.desks import Refusing
from tests.plain_claims import questions_of
from tests.plain_desk import PlainDesk
from tests.plainly import all_locks, bunches, cuts_of
from tests.sample_systems import APART, APART_CUTS, ONE, TWO, TWO_CUTS, odd_systems, small_systems, some_systems
from tests.samples import (
    EVERYTHING, NO_BUNCHES, NO_LOCKS, NO_NUMBERS, Row, is_plain, is_plain_with_words, unchanged,
)

SYSTEM = System(TWO, 2, TWO_CUTS)


class ADeskAtFirst(unittest.TestCase):

    def test_what_it_shows(self):
        for system in some_systems():
            desk = Desk(system)
            self.assertIs(desk.system, system)
            self.assertEqual(desk.watched, ())
            self.assertIs(type(desk.watched), tuple)
            self.assertEqual(desk.many, 0)
            self.assertIs(type(desk.many), int)
            self.assertEqual(desk.report(), ())
            for word in ("undo", "redo"):
                with self.assertRaises(NothingToUndo) as caught:
                    getattr(desk, word)()
                self.assertEqual(caught.exception.word, word)

    def test_it_is_equal_to_itself_alone(self):
        one, other = Desk(SYSTEM), Desk(SYSTEM)
        self.assertTrue(one == one)
        for thing in (other, SYSTEM, (one,), [one], None, 0):
            self.assertFalse(one == thing)
            self.assertTrue(one != thing)

    def test_it_is_not_iterable(self):
        for look in (iter, list, tuple):
            with self.assertRaises(TypeError):
                look(Desk(SYSTEM))

    def test_arguments_by_name(self):
        desk = Desk(system=SYSTEM)
        self.assertIsNone(desk.issue(cut=(1, 1), locks=()))
        self.assertIsNone(desk.mount(keys=(2,)))
        self.assertIsNone(desk.revoke(key=3))
        self.assertIsNone(desk.unmount(lock=2))
        self.assertEqual(desk.system, SYSTEM)
        self.assertIsNone(desk.recut(cut=(0, 0), key=0))
        self.assertIsNone(desk.watch(question=("lock", (1, 2))))
        self.assertEqual(desk.claim(question=("lock", (1, 2))), ("no lock", (1, 2)))
        self.assertEqual(desk.paper(question=("lock", (1, 2))), 0)
        self.assertIsNone(desk.leave(question=("lock", (1, 2))))
        self.assertEqual(desk.many, 7)
        self.assertIsNone(desk.undo())
        self.assertIsNone(desk.redo())
        self.assertIs(same_state(other=desk, one=desk), True)


class Edits(Refusing):

    def test_issue(self):
        desk = Desk(SYSTEM)
        self.assertIsNone(desk.issue((), (1, 1)))
        self.assertEqual(desk.system, System(Table(4, TWO.rows), 2, TWO_CUTS + ((1, 1),)))
        self.assertIsNone(desk.issue((0, 1), (0, 0)))
        self.assertEqual(desk.system.table.rows, ((0, 1, 4), (0, 2, 4)))
        self.assertEqual(desk.many, 2)
        # There are five keys now.
        for locks, cut in product(((), (0,), (0, 1)), ((0, 0), (1, 1))):
            self.assert_raises(Undefined, "key", desk, "issue", locks, cut)
        for locks in ((2,), (1, 0), [0], (True,)):
            self.assert_raises(InvalidLocks, locks, desk, "issue", locks, None)
        for cut in ((0, 2), (0,), (0, False), None):
            self.assert_raises(InvalidCut, cut, desk, "issue", (), cut)

    def test_what_issue_refuses(self):
        desk = Desk(System(Table(3, ((0,), (1,), (2,))), 3, ((0, 0), (1, 1), (2, 2))))
        for locks in NO_LOCKS:
            self.assert_raises(InvalidLocks, locks, desk, "issue", locks, (0, 0))
            self.assert_raises(InvalidLocks, locks, desk, "issue", locks, None)
        for cut in (None, True, 0, (), (0,), (0, 3), (0, -1), (0, True), [0, 0], (0, 0, 0), ((0, 0),), "00", SYSTEM):
            for locks in ((), (0,), (0, 1, 2)):
                self.assert_raises(InvalidCut, cut, desk, "issue", locks, cut)
        for locks, cut in (((), (0, 0)), ((0,), (1, 1)), ((0, 1), (2, 2))):
            self.assert_raises(Undefined, "key", desk, "issue", locks, cut)

    def test_mount(self):
        desk = Desk(SYSTEM)
        for keys in ((2,), (0, 1, 2), (0,)):
            self.assertIsNone(desk.mount(keys))
        self.assertEqual(desk.system, System(Table(3, ((0, 1), (0, 2), (2,), (0, 1, 2), (0,))), 2, TWO_CUTS))
        for keys in ((0,), (1,), (1, 2)):
            self.assert_raises(Undefined, "lock", desk, "mount", keys)
        for keys in ((), (3,), [0], (True,), (1, 0)):
            self.assert_raises(InvalidKeys, keys, desk, "mount", keys)
        self.assertEqual(desk.many, 3)

    def test_what_mount_refuses(self):
        desk = Desk(System(Table(3, ((0,), (1,), (2,))), 2, ((0, 0), (0, 1), (1, 0))))
        for keys in NO_BUNCHES:
            self.assert_raises(InvalidKeys, keys, desk, "mount", keys)
        self.assert_raises(Undefined, "lock", desk, "mount", (1, 2))

    def test_revoke(self):
        desk = Desk(System(Table(4, ((0, 1, 3), (2, 3), (1, 2))), 4, ((0,), (1,), (2,), (3,))))
        self.assertIsNone(desk.revoke(1))
        self.assertEqual(desk.system, System(Table(3, ((0, 2), (1, 2), (1,))), 4, ((0,), (2,), (3,))))
        self.assert_raises(Undefined, "alone", desk, "revoke", 1)
        self.assertIsNone(desk.revoke(2))
        self.assertEqual(desk.system, System(Table(2, ((0,), (1,), (1,))), 4, ((0,), (2,))))
        for key in (0, 1):
            self.assert_raises(Undefined, "alone", desk, "revoke", key)
        self.assertEqual(desk.many, 2)

    def test_revoke_of_a_key_in_no_row(self):
        desk = Desk(System(Table(2, ((0,),)), 2, ((0,), (1,))))
        self.assertIsNone(desk.revoke(1))
        self.assertEqual(desk.system, System(ONE, 2, ((0,),)))
        self.assert_raises(Undefined, "alone", desk, "revoke", 0)
        desk = Desk(System(Table(2, ((1,),)), 2, ((0,), (1,))))
        desk.revoke(0)
        self.assertEqual(desk.system, System(ONE, 2, ((1,),)))

    def test_what_revoke_refuses(self):
        desk = Desk(System(Table(3, ((0, 1, 2),)), 2, TWO_CUTS))
        for key in NO_NUMBERS:
            self.assert_raises(InvalidKeys, key, desk, "revoke", key)
        desk = Desk(System(ONE, 2, ((0,),)))
        for key in (1, -1, True, False, None, (0,), "0"):
            self.assert_raises(InvalidKeys, key, desk, "revoke", key)
        self.assert_raises(Undefined, "alone", desk, "revoke", 0)

    def test_unmount(self):
        desk = Desk(System(Table(3, ((0,), (1,), (2,), (0, 1, 2), (0, 1))), 2, TWO_CUTS))
        self.assertIsNone(desk.unmount(1))
        self.assertEqual(desk.system.table.rows, ((0,), (2,), (0, 1, 2), (0, 1)))
        self.assertIsNone(desk.unmount(3))
        self.assertIsNone(desk.unmount(0))
        self.assertIsNone(desk.unmount(0))
        self.assertEqual(desk.system, System(Table(3, ((0, 1, 2),)), 2, TWO_CUTS))
        self.assert_raises(Undefined, "alone", desk, "unmount", 0)
        for lock in (1, -1, True, False, None, "0", [0]):
            self.assert_raises(InvalidNumber, lock, desk, "unmount", lock)
        self.assertEqual(desk.many, 4)

    def test_what_unmount_refuses(self):
        desk = Desk(System(Table(3, ((0,), (1,), (2,))), 2, TWO_CUTS))
        for lock in NO_NUMBERS:
            self.assert_raises(InvalidNumber, lock, desk, "unmount", lock)

    def test_recut(self):
        desk = Desk(SYSTEM)
        self.assertIsNone(desk.recut(0, (1, 1)))
        self.assertEqual(desk.system, System(TWO, 2, ((1, 1), (0, 1), (1, 0))))
        self.assertIsNone(desk.recut(0, (1, 1)))
        self.assertEqual(desk.many, 2)
        self.assert_raises(Undefined, "fit", desk, "recut", 1, (1, 0))
        desk.recut(0, Row((0, 0)))
        self.assertTrue(is_plain(desk.system.cuts))

    def test_what_recut_refuses(self):
        desk = Desk(SYSTEM)
        for key in NO_NUMBERS:
            for cut in ((0, 0), None, (0, 0, 0)):
                self.assert_raises(InvalidKeys, key, desk, "recut", key, cut)
        for cut in EVERYTHING + ((0, 2), (0, True), [0, 0], (0, 0, 0), (0, -1), ((0, 0),), "00"):
            if unchanged(cut) != unchanged((0, 1)):
                for key in (0, 1, 2):
                    self.assert_raises(InvalidCut, cut, desk, "recut", key, cut)
        for key, cut in ((0, (0, 1)), (0, (1, 0)), (1, (0, 0)), (2, (0, 0)), (1, (1, 0)), (2, (0, 1)), (1, (1, 1))):
            self.assert_raises(Undefined, "fit", desk, "recut", key, cut)

    def test_each_edit_just_where_it_is_let(self):
        for system in small_systems()[::120] + odd_systems()[::20]:
            many, locks = system.table.many, len(system.table.rows)
            calls = [("issue", some, cut) for some in all_locks(system)[::2] for cut in cuts_of(system)[::3]]
            calls += [("mount", keys) for keys in bunches(system)] + [("revoke", key) for key in range(-1, many + 1)]
            calls += [("unmount", lock) for lock in range(-1, locks + 1)]
            calls += [("recut", key, cut) for key in range(many + 1) for cut in cuts_of(system)[::2]]
            for name, *arguments in calls:
                self.assert_same_as_plain(system, name, arguments)

    def assert_same_as_plain(self, system, name, arguments):
        desk, plain = Desk(system), PlainDesk(system)
        try:
            plain.do(name, *arguments)
        except LockError as error:
            with self.assertRaises(type(error)) as caught:
                getattr(desk, name)(*arguments)
            self.assertEqual(vars(caught.exception), vars(error))
            self.assertEqual(desk.many, 0)
        else:
            self.assertIsNone(getattr(desk, name)(*arguments))
            self.assertEqual(desk.many, 1)
        self.assertEqual(unchanged(desk.system), unchanged(plain.system))


class Watching(Refusing):

    def test_watch_and_leave(self):
        desk = Desk(SYSTEM)
        questions = (("lock", (1, 2)), ("room", ()), ("threat", 1, 1), ("made", (2,), 0))
        for at, question in enumerate(questions):
            self.assertIsNone(desk.watch(question))
            self.assertEqual(desk.watched, questions[:at + 1])
            self.assertEqual(desk.many, at + 1)
            self.assertEqual(desk.report(), ("kept",) * at + ("new",))
            self.assertEqual(desk.claim(question), answer_of(SYSTEM, question))
            self.assertEqual(desk.paper(question), paper_of(SYSTEM, question))
        self.assertIsNone(desk.leave(("room", ())))
        self.assertEqual(desk.watched, questions[:1] + questions[2:])
        self.assertEqual(desk.report(), ("kept",) * 3)
        self.assert_raises(Undefined, "watched", desk, "leave", ("room", ()))
        self.assert_raises(Undefined, "watched", desk, "claim", ("room", ()))
        self.assert_raises(Undefined, "watched", desk, "paper", ("room", ()))
        self.assertIsNone(desk.watch(("room", ())))
        self.assertEqual(desk.watched, questions[:1] + questions[2:] + questions[1:2])
        self.assertEqual(desk.report(), ("kept",) * 3 + ("new",))
        self.assertEqual(desk.many, 6)

    def test_one_that_is_watched_keeps_its_place(self):
        desk = Desk(SYSTEM)
        desk.watch(("lock", (1, 2)))
        desk.watch(("room", ()))
        desk.undo()
        desk.redo()
        self.assertIsNone(desk.watch(("lock", (1, 2))))
        self.assertEqual(desk.watched, (("lock", (1, 2)), ("room", ())))
        self.assertEqual(desk.report(), ("kept", "kept"))
        self.assertEqual(desk.many, 3)
        self.assert_raises(NothingToUndo, "redo", desk, "redo")
        desk.undo()
        self.assertEqual(desk.watched, (("lock", (1, 2)), ("room", ())))
        self.assertEqual(desk.many, 2)

    def test_one_that_is_no_question_now_can_not_be_watched_again(self):
        desk = Desk(SYSTEM)
        desk.watch(("lock", (2,)))
        desk.revoke(1)
        self.assertEqual(desk.watched, (("lock", (2,)),))
        self.refuse_watch(desk, ("lock", (2,)))
        self.assertEqual(desk.report(), ("none",))
        self.assertIsNone(desk.leave(("lock", (2,))))
        self.assertEqual(desk.watched, ())

    def refuse_watch(self, desk, question):
        self.assert_raises(InvalidQuestion, question, desk, "watch", question)

    def test_what_watch_refuses(self):
        desk = Desk(SYSTEM)
        desk.watch(("lock", (0, 1)))
        desk.watch(("threat", 1, 1))
        for value in EVERYTHING + (
            ("lock", (0, True)), ("lock", (False, 1)), ("lock", [0, 1]), ["lock", (0, 1)], ("threat", True, 1),
            ("threat", 1, True), ("threat", 0, 0), ("safe", 1, 1), ("lock", ()), ("lock", (3,)), ("room", (2,)),
            ("room", (), 1), ("no lock", (0,)), ("cuts", 2, 1, "plain"), ("fewest", 2, "plain"), SYSTEM, "lock",
        ):
            self.refuse_watch(desk, value)

    def test_what_is_not_watched(self):
        desk = Desk(SYSTEM)
        questions = (("lock", (0, 1)), ("threat", 1, 1), ("made", (0, 1), 0), ("room", (0,)), ("room", ()))
        for question in questions:
            desk.watch(question)
        for value in EVERYTHING + questions_as_other_values(questions) + (
            ("lock", (0,)), ("lock", (0, 1, 2)), ("no lock", (0, 1)), ("threat", 2, 0), ("made", (0, 1), 1), ("room", (1,)),
            "lock", ("lock",), ("room", ((),)), (("lock", (0, 1)),), ("room", (), 1), SYSTEM, questions,
        ):
            for name in ("leave", "claim", "paper"):
                self.assert_raises(Undefined, "watched", desk, name, value)
        for question in questions:
            self.assertIsNotNone(desk.claim(question))
        self.assertEqual(desk.watched, questions)

    def test_tuples_of_a_class_of_their_own(self):
        desk = Desk(SYSTEM)
        question = Row(("lock", Row((1, 2))))
        desk.watch(question)
        self.assertTrue(is_plain_with_words(desk.watched))
        self.assertEqual(desk.claim(question), ("no lock", (1, 2)))
        self.assertTrue(is_plain_with_words(desk.claim(question)))
        desk.watch(question)
        self.assertEqual(desk.watched, (("lock", (1, 2)),))
        desk.leave(question)
        self.assertEqual(desk.watched, ())

    def test_eight_watched_questions(self):
        system = System(APART, 2, APART_CUTS)
        desk = Desk(system)
        questions = questions_of(system)[::len(questions_of(system)) // 8][:8]
        for question in questions:
            desk.watch(question)
        self.assertEqual(desk.watched, tuple(questions))
        self.assertEqual(desk.report(), ("kept",) * 7 + ("new",))
        for question in questions:
            self.assertEqual(desk.claim(question), answer_of(system, question))
            self.assertEqual(desk.paper(question), paper_of(system, question))


def questions_as_other_values(questions):
    """Return values that are equal to questions for Python, or nearly so, but are others."""
    return (
        ("lock", (False, 1)), ("lock", (0, True)), ("lock", [0, 1]), ["lock", (0, 1)], ("threat", True, 1),
        ("threat", 1, True), ("made", (0, True), 0), ("made", (0, 1), False), ["made", (0, 1), 0], ("room", (False,)),
        ("room", [0]), ("room", []), ["room", ()], tuple(list(question) for question in questions),
    )


if __name__ == "__main__":
    unittest.main()
