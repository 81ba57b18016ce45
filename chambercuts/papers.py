"""Papers, from which it can be seen that claims are true."""

from chambercuts.checks import has_word, is_integer
from chambercuts.claims import answer_of, is_claim
from chambercuts.cuts import are_cuts, falls, is_cut, least_stacks
from chambercuts.depths import MOST_DEPTHS, depth_tuples
from chambercuts.filing import bars, filed
from chambercuts.later import falls_beside, flaw, intruders
from chambercuts.making import gaps, made_of
from chambercuts.partings import cuts_for, kept_out
from chambercuts.systems import System, chambers, lock_stacks, stacks_of
from chambercuts.tables import is_lock, is_out, outs
from chambercuts.walls import walls, walls_hold


def paper_of(thing, question):
    """Return some paper for the claim that answers a question."""
    word, *parts = answer_of(thing, question)
    if isinstance(thing, System):
        return _paper_of_system(thing, word, parts)
    return _paper_of_table(thing, word, parts)


def claim_holds(thing, claim, paper):
    """Tell whether a claim is one for a table or a system, and a paper is one for it; both may be any values."""
    if not is_claim(thing, claim):
        return False
    word, *parts = claim
    if word == "cuts":
        return _cuts_hold(thing, *parts, paper)
    if word == "no cuts":
        return walls_hold(thing, *parts, paper)
    if word == "fewest":
        return _fewest_holds(thing, *parts, paper)
    if word == "room":
        return _room_holds(thing, *parts, paper)
    if word == "lock":
        return _lock_holds(thing, *parts, paper)
    if word == "threat":
        return _threat_holds(thing, *parts, paper)
    if word == "made":
        return _made_holds(thing, *parts, paper)
    return is_integer(paper) and paper in _reasons_against(thing, word, parts)


def _paper_of_table(table, word, parts):
    """Return some paper for a true claim for a table."""
    if word == "cuts":
        return cuts_for(table, *parts)
    if word == "no cuts":
        return walls(table, *parts)
    depths, kind, k = parts
    cuts = cuts_for(table, depths, k, kind)
    return (cuts, walls(table, depths, k - 1, kind) if k > 1 else ())


def _paper_of_system(system, word, parts):
    """Return some paper for a true claim for a system."""
    if word == "threat":
        return filed(system, *parts)
    if word == "made":
        return made_of(system, *parts)
    if word == "lock":
        return tuple([some[0] for some in _chambers_apart(system, parts[0])])
    if word == "room":
        return _all_reasons(system, parts[0])
    return _reasons_against(system, word, parts)[0]


def _reasons_against(system, word, parts):
    """Return all papers for a claim of a system that denies; they are numbers."""
    if word == "safe":
        return bars(system, *parts)
    if word == "not made":
        return gaps(system, *parts)
    return intruders(system, *parts)


def _chambers_apart(system, keys):
    """Return for each other key the ascending chambers in which its depth is none of those of these keys."""
    stacks = least_stacks(system.cuts, keys)
    cuts = [cut for key, cut in enumerate(system.cuts) if key not in keys]
    return [[at for at, depth in enumerate(cut) if depth not in stacks[at]] for cut in cuts]


def _all_reasons(system, locks):
    """Return all cuts, ascending, each in a pair with why a key of it fits in these rows or does not."""
    stacks = lock_stacks(system)
    cuts = depth_tuples(chambers(system), system.depths)
    flaws = [flaw(system, stacks, locks, cut) for cut in cuts]
    return tuple([(cut, ("fits",) if why is None else why) for cut, why in zip(cuts, flaws)])


def _cuts_hold(table, depths, k, kind, paper):
    """Tell whether a paper is cuts of k chambers that keep out all outs in this kind."""
    if not are_cuts(table, depths, paper) or len(paper[0]) != k:
        return False
    kept = [kept_out(table, parting, kind) for parting in zip(*paper)]
    return all([any([pair in some for some in kept]) for pair in outs(table)])


def _fewest_holds(table, depths, kind, k, paper):
    """Tell whether a paper is a pair of such cuts and of walls for one chamber less."""
    if not isinstance(paper, tuple) or len(paper) != 2 or not _cuts_hold(table, depths, k, kind, paper[0]):
        return False
    if k == 1:
        return isinstance(paper[1], tuple) and len(paper[1]) == 0
    return walls_hold(table, depths, k - 1, kind, paper[1])


def _threat_holds(system, key, lock, paper):
    """Tell whether a paper is a cut filed from the key's that opens the lock."""
    if not is_cut(paper, chambers(system), system.depths):
        return False
    is_filed = all([depth >= own for depth, own in zip(paper, system.cuts[key])])
    return is_filed and falls(paper, stacks_of(system, lock))


def _made_holds(system, keys, lock, paper):
    """Tell whether a paper is a cut that can be made of the keys and opens the lock."""
    if not is_cut(paper, chambers(system), system.depths):
        return False
    return falls(paper, least_stacks(system.cuts, keys)) and falls(paper, stacks_of(system, lock))


def _lock_holds(system, keys, paper):
    """Tell whether a paper has for each other key a chamber in which its depth is none of these keys'."""
    apart = _chambers_apart(system, keys)
    if not isinstance(paper, tuple) or len(paper) != len(apart):
        return False
    return all([is_integer(chamber) and chamber in some for chamber, some in zip(paper, apart)])


def _room_holds(system, locks, many, paper):
    """Tell whether a paper is all cuts, each with a true reason, and so many of them fit."""
    cuts = depth_tuples(chambers(system), system.depths)
    if not isinstance(paper, tuple) or len(paper) != len(cuts):
        return False
    stacks = lock_stacks(system)
    fitting = 0
    for cut, member in zip(cuts, paper):
        if not _is_pair_with(cut, member) or not _is_reason(system, stacks, locks, cut, member[1]):
            return False
        if member[1][0] == "fits":
            fitting = fitting + 1
    return fitting == many


def _is_pair_with(cut, value):
    """Tell whether a value is a pair of this cut and of another value."""
    if not isinstance(value, tuple) or len(value) != 2:
        return False
    # A cut with bools in it is equal to one with numbers, but no cut.
    return is_cut(value[0], len(cut), MOST_DEPTHS) and value[0] == cut


def _is_reason(system, stacks, locks, cut, value):
    """Tell whether a value is true of a key of this cut in the rows of just these locks."""
    if not has_word(value):
        return False
    word, *parts = value
    if word == "fits":
        return len(parts) == 0 and flaw(system, stacks, locks, cut) is None
    if word == "opens":
        is_other = len(parts) == 1 and is_lock(system.table, parts[0]) and parts[0] not in locks
        return is_other and falls(cut, stacks[parts[0]])
    if word != "lets" or len(parts) != 2 or not is_out(system.table, parts[0], parts[1]):
        return False
    return parts[1] in locks and falls_beside(system.cuts[parts[0]], stacks[parts[1]], cut)
