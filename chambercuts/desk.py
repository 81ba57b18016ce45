"""A desk, at which a system is edited and questions about it are watched."""

from chambercuts.checks import is_same
from chambercuts.claims import answer_of, is_question, plain
from chambercuts.cuts import fits, is_cut
from chambercuts.errors import InvalidCut, InvalidKeys, InvalidNumber, InvalidQuestion, NothingToUndo, Undefined
from chambercuts.later import with_key, with_lock
from chambercuts.papers import claim_holds, paper_of
from chambercuts.systems import System, chambers
from chambercuts.tables import Table, is_key, is_lock


class Desk:
    """A system that is edited, and watched questions with the claims and papers kept for them."""

    def __init__(self, system):
        self.system = system
        self.watched = ()
        self.many = 0
        # What system and watched questions were ahead of each deed that can be undone, and behind each
        # that can be redone, the last one at the end.
        self._past = []
        self._future = []
        # For each watched question its claim, its paper and the word that report tells.
        self._kept = {}

    def issue(self, locks, cut):
        """Add a key of this cut to the rows of just these locks."""
        self._do(with_key(self.system, locks, cut), self.watched)

    def mount(self, keys):
        """Add a lock for these keys."""
        self._do(with_lock(self.system, keys), self.watched)

    def revoke(self, key):
        """Take a key out of all rows; greater keys are one less from now on."""
        if not is_key(self.system.table, key):
            raise InvalidKeys(key)
        self._do(_without_key(self.system, key), self.watched)

    def unmount(self, lock):
        """Take a lock out; greater locks are one less from now on."""
        if not is_lock(self.system.table, lock):
            raise InvalidNumber(lock)
        self._do(_without_lock(self.system, lock), self.watched)

    def recut(self, key, cut):
        """Give a key this cut."""
        system = self.system
        if not is_key(system.table, key):
            raise InvalidKeys(key)
        if not is_cut(cut, chambers(system), system.depths):
            raise InvalidCut(cut)
        self._do(_with_cut(system, key, cut), self.watched)

    def watch(self, question):
        """Watch a question from now on, behind the others; one that is watched keeps its place."""
        if not is_question(self.system, question):
            raise InvalidQuestion(question)
        if self._is_watched(question):
            self._do(self.system, self.watched)
        else:
            self._do(self.system, self.watched + (plain(question),))

    def leave(self, question):
        """Watch a question no longer."""
        self._check(question)
        self._do(self.system, tuple([other for other in self.watched if other != question]))

    def undo(self):
        """Make system and watched questions what they were ahead of the last deed that is not undone."""
        if len(self._past) == 0:
            raise NothingToUndo("undo")
        self._future.append((self.system, self.watched))
        system, watched = self._past.pop()
        self._become(system, watched)

    def redo(self):
        """Do the last undone deed again."""
        if len(self._future) == 0:
            raise NothingToUndo("redo")
        self._past.append((self.system, self.watched))
        system, watched = self._future.pop()
        self._become(system, watched)

    def claim(self, question):
        """Return the claim that is kept for a watched question, None if it is no question now."""
        self._check(question)
        return self._kept[plain(question)][0]

    def paper(self, question):
        """Return the paper that is kept for a watched question, None if it is no question now."""
        self._check(question)
        return self._kept[plain(question)][1]

    def report(self):
        """Return for each watched question a word for what the last deed made of it."""
        return tuple([self._kept[question][2] for question in self.watched])

    def _is_watched(self, value):
        """Tell whether a value is a watched question."""
        return any([is_same(question, value) for question in self.watched])

    def _check(self, value):
        """Refuse what is no watched question."""
        if not self._is_watched(value):
            raise Undefined("watched")

    def _do(self, system, watched):
        """Make system and watched questions these, by a deed that can be undone."""
        self._past.append((self.system, self.watched))
        self._future = []
        self._become(system, watched)

    def _become(self, system, watched):
        """Make system and watched questions these, and look at what is kept for the questions."""
        known = self._kept
        self._kept = {question: _looked_at(system, question, known.get(question, ())) for question in watched}
        self.system = system
        self.watched = watched
        self.many = len(self._past)


def same_state(one, other):
    """Tell whether two desks show the same, and can undo and redo equally many deeds."""
    if not one.system == other.system or one.watched != other.watched:
        return False
    for question in one.watched:
        if one.claim(question) != other.claim(question) or one.paper(question) != other.paper(question):
            return False
    return one.many == other.many and len(one._future) == len(other._future)


def _looked_at(system, question, before):
    """Return the claim and the paper for a question behind a deed, and the word for what the deed made of it.

    They rest on what the same was ahead of the deed, which is () if the question was not watched.
    """
    if not is_question(system, question):
        return (None, None, "new" if len(before) == 0 else "none")
    if len(before) > 0 and claim_holds(system, before[0], before[1]):
        return (before[0], before[1], "kept")
    claim = answer_of(system, question)
    paper = paper_of(system, question)
    if len(before) == 0:
        return (claim, paper, "new")
    return (claim, paper, "renewed" if claim == before[0] else "changed")


def _without_key(system, key):
    """Return the system without a key."""
    table = system.table
    # The only key of all is the only one in each row.
    if (key,) in table.rows:
        raise Undefined("alone")
    rows = [[other - 1 if other > key else other for other in row if other != key] for row in table.rows]
    left = Table(table.many - 1, tuple([tuple(row) for row in rows]))
    return System(left, system.depths, system.cuts[:key] + system.cuts[key + 1:])


def _without_lock(system, lock):
    """Return the system without a lock."""
    rows = system.table.rows
    if len(rows) == 1:
        raise Undefined("alone")
    return System(Table(system.table.many, rows[:lock] + rows[lock + 1:]), system.depths, system.cuts)


def _with_cut(system, key, cut):
    """Return the system in which a key has this cut."""
    cuts = system.cuts[:key] + (cut,) + system.cuts[key + 1:]
    if not fits(system.table, system.depths, cuts):
        raise Undefined("fit")
    return System(system.table, system.depths, cuts)
