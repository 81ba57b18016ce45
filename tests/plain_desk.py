"""A desk as the points describe it, done in the plainest way."""

from chambercuts.claims import answer_of
from chambercuts.errors import (
    InvalidCut, InvalidKeys, InvalidLocks, InvalidNumber, InvalidQuestion, NothingToUndo, Undefined,
)
from chambercuts.papers import paper_of
from chambercuts.systems import System
from chambercuts.tables import Table
from tests.plain_claims import is_cut, is_paper, questions_of
from tests.plainly import all_key_cuts, all_locks, bunches, do_fit


def has(values, value):
    """Tell whether a value is among others, where a bool is no number and a list no tuple."""
    return repr(value) in [repr(other) for other in values]


class PlainDesk:
    """Keeps all states that were ever reached; a state is a system and its watched questions."""

    def __init__(self, system):
        self.states = [(system, ())]
        self.at = 0
        self.kept = {}
        self.words = ()

    @property
    def system(self):
        return self.states[self.at][0]

    @property
    def watched(self):
        return self.states[self.at][1]

    def do(self, name, *arguments):
        """Do a deed, or raise what it raises."""
        if name in ("undo", "redo"):
            at = self.at + (1 if name == "redo" else -1)
            if at not in range(len(self.states)):
                raise NothingToUndo(name)
            self.at = at
        else:
            state = getattr(self, name)(*arguments)
            self.states = self.states[:self.at + 1] + [state]
            self.at += 1
        self.look()

    def look(self):
        """Look at each watched question, behind a deed."""
        kept, words = {}, []
        for question in self.watched:
            before = self.kept.get(question)
            if not has(questions_of(self.system), question):
                kept[question], word = (None, None), "none"
            elif before and before[0] and self.still(question, *before):
                kept[question], word = before, "kept"
            else:
                kept[question] = answer_of(self.system, question), paper_of(self.system, question)
                word = "renewed" if before and before[0] == kept[question][0] else "changed"
            words.append("new" if before is None else word)
        self.kept, self.words = kept, tuple(words)

    def still(self, question, claim, paper):
        # Some paper holds just for the claims that are true.
        return is_paper(self.system, claim, paper)

    def issue(self, locks, cut):
        system = self.system
        if not has(all_locks(system), locks):
            raise InvalidLocks(locks)
        if not is_cut(system, cut):
            raise InvalidCut(cut)
        key = system.table.many
        if key == 5 or cut not in all_key_cuts(system, locks):
            raise Undefined("key")
        rows = tuple(row + (key,) if lock in locks else row for lock, row in enumerate(system.table.rows))
        return System(Table(key + 1, rows), system.depths, system.cuts + (cut,)), self.watched

    def mount(self, keys):
        system = self.system
        if not has(bunches(system), keys):
            raise InvalidKeys(keys)
        rows = system.table.rows + (keys,)
        if len(rows) > 5 or not do_fit(rows, system.cuts):
            raise Undefined("lock")
        return System(Table(system.table.many, rows), system.depths, system.cuts), self.watched

    def revoke(self, key):
        system = self.system
        many = system.table.many
        if not has(range(many), key):
            raise InvalidKeys(key)
        left = [other for other in range(many) if other != key]
        rows = tuple(tuple(left.index(other) for other in row if other in left) for row in system.table.rows)
        if not left or () in rows:
            raise Undefined("alone")
        return System(Table(many - 1, rows), system.depths, tuple(system.cuts[other] for other in left)), self.watched

    def unmount(self, lock):
        system = self.system
        rows = list(system.table.rows)
        if not has(range(len(rows)), lock):
            raise InvalidNumber(lock)
        if len(rows) == 1:
            raise Undefined("alone")
        del rows[lock]
        return System(Table(system.table.many, tuple(rows)), system.depths, system.cuts), self.watched

    def recut(self, key, cut):
        system = self.system
        if not has(range(system.table.many), key):
            raise InvalidKeys(key)
        if not is_cut(system, cut):
            raise InvalidCut(cut)
        cuts = list(system.cuts)
        cuts[key] = cut
        if not do_fit(system.table.rows, cuts):
            raise Undefined("fit")
        return System(system.table, system.depths, tuple(cuts)), self.watched

    def watch(self, question):
        if not has(questions_of(self.system), question):
            raise InvalidQuestion(question)
        return self.system, self.watched + (() if question in self.watched else (question,))

    def leave(self, question):
        if not has(self.watched, question):
            raise Undefined("watched")
        return self.system, tuple(other for other in self.watched if other != question)
