"""Questions, claims and papers as the points list them, done in the plainest way."""

from itertools import product

from chambercuts.systems import System
from chambercuts.tables import Table
from tests.plainly import (
    all_key_cuts, all_locks, all_outs, are_good_cuts, are_walls, bunches, cuts_of, do_fit, first_filed, first_made,
    is_filed, is_made, least_chambers, opens,
)

KINDS = ("plain", "deep")
DENIED = {"no cuts": "cuts", "safe": "threat", "not made": "made", "no lock": "lock"}


def questions_of(thing):
    """Return all questions for a table or a system."""
    if isinstance(thing, Table):
        found = [("cuts", depths, k, kind) for depths, k, kind in product((2, 3, 4), range(1, 6), KINDS)]
        return found + [("fewest", depths, kind) for depths, kind in product((2, 3, 4), KINDS)]
    locks = range(len(thing.table.rows))
    found = [("threat", key, lock) for key, lock in all_outs(thing.table)]
    found += [("made", keys, lock) for keys, lock in product(bunches(thing), locks)]
    found += [("lock", keys) for keys in bunches(thing)]
    return found + [("room", some) for some in all_locks(thing)]


def claims_for(thing, question):
    """Return all claims that may answer a question, of those with a number only some."""
    if question[0] == "fewest":
        return [question + (k,) for k in range(1, 6)]
    if question[0] == "room":
        right = len(all_key_cuts(thing, question[1]))
        return [question + (many,) for many in sorted({0, 1, abs(right - 1), right, right + 1, 10 ** 12 - 1})]
    denial = {word: other for other, word in DENIED.items()}[question[0]]
    return [question, (denial,) + question[1:]]


def is_true(thing, claim):
    """Tell whether a claim is true."""
    word = claim[0]
    if word in DENIED:
        return not is_true(thing, (DENIED[word],) + claim[1:])
    if word == "cuts":
        return least_chambers(thing, claim[1], claim[3]) <= claim[2]
    if word == "fewest":
        return least_chambers(thing, claim[1], claim[2]) == claim[3]
    if word == "threat":
        return first_filed(thing, claim[1], claim[2]) is not None
    if word == "made":
        return first_made(thing, claim[1], claim[2]) is not None
    if word == "lock":
        return do_fit(thing.table.rows + (claim[1],), thing.cuts)
    return len(all_key_cuts(thing, claim[1])) == claim[2]


def is_number(value):
    return type(value) is int


def is_cut(system, value):
    if type(value) is not tuple or len(value) != len(system.cuts[0]):
        return False
    return all(is_number(depth) and 0 <= depth < system.depths for depth in value)


def is_chamber(system, value):
    return is_number(value) and 0 <= value < len(system.cuts[0])


def is_paper(thing, claim, paper):
    """Tell whether a paper of plain tuples is one for a claim."""
    return (_is_paper_of_system if isinstance(thing, System) else _is_paper_of_table)(thing, claim, paper)


def _is_paper_of_table(table, claim, paper):
    if claim[0] == "cuts":
        return are_good_cuts(table, claim[1], claim[2], claim[3], paper)
    if claim[0] == "no cuts":
        return are_walls(table, claim[1], claim[2], claim[3], paper)
    _, depths, kind, k = claim
    if type(paper) is not tuple or len(paper) != 2 or not are_good_cuts(table, depths, k, kind, paper[0]):
        return False
    if k == 1:
        return type(paper[1]) is tuple and paper[1] == ()
    return are_walls(table, depths, k - 1, kind, paper[1])


def _is_paper_of_system(system, claim, paper):
    word, first, *rest = claim
    if word == "threat":
        return is_cut(system, paper) and is_filed(system, first, paper) and opens(system, paper, rest[0])
    if word == "made":
        return is_cut(system, paper) and is_made(system, first, paper) and opens(system, paper, rest[0])
    if word == "safe":
        row = system.table.rows[rest[0]]
        return is_chamber(system, paper) and all(system.cuts[first][paper] > system.cuts[o][paper] for o in row)
    if word == "not made":
        stack = [system.cuts[key][paper] for key in system.table.rows[rest[0]]] if is_chamber(system, paper) else []
        return is_chamber(system, paper) and all(system.cuts[key][paper] not in stack for key in first)
    if word == "lock":
        return _is_paper_for_lock(system, first, paper)
    if word == "no lock":
        if not is_number(paper) or not 0 <= paper < system.table.many or paper in first:
            return False
        return all(
            any(system.cuts[paper][at] == system.cuts[key][at] for key in first) for at in range(len(system.cuts[0]))
        )
    return _is_paper_for_room(system, first, rest[0], paper)


def _is_paper_for_lock(system, keys, paper):
    others = [key for key in range(system.table.many) if key not in keys]
    if type(paper) is not tuple or len(paper) != len(others):
        return False
    for key, at in zip(others, paper):
        if not is_chamber(system, at) or any(system.cuts[key][at] == system.cuts[own][at] for own in keys):
            return False
    return True


def _is_paper_for_room(system, locks, many, paper):
    cuts = cuts_of(system)
    if type(paper) is not tuple or len(paper) != len(cuts):
        return False
    able = all_key_cuts(system, locks)
    for cut, member in zip(cuts, paper):
        if type(member) is not tuple or len(member) != 2 or not is_cut(system, member[0]) or member[0] != cut:
            return False
        if not is_reason(system, locks, cut, member[1], able):
            return False
    return len(able) == many


def is_reason(system, locks, cut, reason, able):
    """Tell whether a reason is true, where these are the cuts with which one key more fits."""
    if type(reason) is not tuple or len(reason) == 0 or type(reason[0]) is not str:
        return False
    if reason[0] == "fits":
        return len(reason) == 1 and cut in able
    if not all(is_number(number) for number in reason[1:]):
        return False
    many, rows = system.table.many, system.table.rows
    if reason[0] == "opens":
        if len(reason) != 2 or reason[1] not in range(len(rows)) or reason[1] in locks:
            return False
        return opens(system, cut, reason[1])
    if reason[0] != "lets" or len(reason) != 3:
        return False
    _, key, lock = reason
    if key not in range(many) or lock not in locks or key in rows[lock]:
        return False
    theirs = [system.cuts[other] for other in rows[lock]] + [cut]
    return all(any(system.cuts[key][at] == other[at] for other in theirs) for at in range(len(cut)))
