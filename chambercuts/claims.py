"""Questions that can be asked of a table or a system, and the claims that may answer them.

A question is a tuple of a word and of what it is about. A claim begins with the same word or with
one that denies it, and ends with the number if it is one that is asked for.
"""

from chambercuts.checks import has_word, is_integer
from chambercuts.depths import is_chambers, is_depths, is_kind
from chambercuts.errors import InvalidClaim, InvalidQuestion
from chambercuts.filing import bars
from chambercuts.later import key_cuts, lock_fits
from chambercuts.making import gaps
from chambercuts.partings import fewest
from chambercuts.systems import System
from chambercuts.tables import are_locks, is_bunch, is_lock, is_out

# The words of claims that deny, by those of the questions, and the other way.
DENIALS = {"cuts": "no cuts", "threat": "safe", "made": "not made", "lock": "no lock"}
DENIED = {"no cuts": "cuts", "safe": "threat", "not made": "made", "no lock": "lock"}


def is_question(thing, value):
    """Tell whether a value is a question for a table or a system."""
    if not has_word(value):
        return False
    word, *parts = value
    if isinstance(thing, System):
        return _is_for_system(thing.table, word, parts)
    return _is_for_table(word, parts)


def is_claim(thing, value):
    """Tell whether a value is a claim for a table or a system."""
    if not has_word(value):
        return False
    if value[0] == "fewest" and not is_chambers(value[-1]):
        return False
    if value[0] == "room" and not (is_integer(value[-1]) and value[-1] >= 0):
        return False
    return is_question(thing, _asked(value))


def answer_of(thing, question):
    """Return the true one of the claims that may answer a question."""
    if not is_question(thing, question):
        raise InvalidQuestion(question)
    word, *parts = plain(question)
    if word == "fewest":
        return (word, *parts, fewest(thing, *parts))
    if word == "room":
        return (word, *parts, len(key_cuts(thing, *parts)))
    if not _is_so(thing, word, parts):
        word = DENIALS[word]
    return (word, *parts)


def question_of(thing, claim):
    """Return the question that a claim may answer."""
    if not is_claim(thing, claim):
        raise InvalidClaim(claim)
    return plain(_asked(claim))


def plain(value):
    """Return a value in which all tuples have become plain ones."""
    if isinstance(value, tuple):
        return tuple([plain(member) for member in value])
    return value


def _is_for_table(word, parts):
    """Tell whether a word and what comes behind it are a question for a table."""
    if word == "cuts":
        return len(parts) == 3 and is_depths(parts[0]) and is_chambers(parts[1]) and is_kind(parts[2])
    if word == "fewest":
        return len(parts) == 2 and is_depths(parts[0]) and is_kind(parts[1])
    return False


def _is_for_system(table, word, parts):
    """Tell whether a word and what comes behind it are a question for a system of this table."""
    if word == "threat":
        return len(parts) == 2 and is_out(table, parts[0], parts[1])
    if word == "made":
        return len(parts) == 2 and is_bunch(table, parts[0]) and is_lock(table, parts[1])
    if word == "lock":
        return len(parts) == 1 and is_bunch(table, parts[0])
    if word == "room":
        return len(parts) == 1 and are_locks(table, parts[0])
    return False


def _asked(claim):
    """Return the question that a claim may answer, for a claim that has a word."""
    if claim[0] in ("fewest", "room"):
        return claim[:-1]
    return (DENIED.get(claim[0], claim[0]),) + claim[1:]


def _is_so(thing, word, parts):
    """Tell whether what a question asks is so, for one whose claims have no number at the end."""
    if word == "cuts":
        depths, k, kind = parts
        return fewest(thing, depths, kind) <= k
    if word == "threat":
        return len(bars(thing, *parts)) == 0
    if word == "made":
        return len(gaps(thing, *parts)) == 0
    return lock_fits(thing, *parts)
