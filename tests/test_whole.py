"""Tests of what goes for all functions: [1], [2], [4], and the promises of the overview over the whole program."""

import unittest
from itertools import product

from chambercuts.claims import answer_of, is_claim, is_question, question_of
from chambercuts.cuts import are_cuts, falls, fits, least_stacks
from chambercuts.errors import LockError
from chambercuts.filing import filed, threats
from chambercuts.later import key_cuts, lock_fits, with_key, with_lock
from chambercuts.making import made_of, makers
from chambercuts.masters import are_master_cuts, greatest, layer, master_table, share
from chambercuts.papers import claim_holds, paper_of
from chambercuts.partings import cuts_for, fewest, kept_out
from chambercuts.systems import System, ghosts, opened
from chambercuts.tables import Table, outs
from chambercuts.walls import walls, walls_hold
from tests.plain_claims import claims_for, questions_of
from tests.sample_systems import APART, APART_CUTS, FULL, ONE, TWO, TWO_CUTS, large_systems, odd_systems, some_systems
from tests.samples import in_rows, unchanged


def a_table(table):
    return Table(table.many, tuple(table.rows))


def a_system(system):
    """Return a system that is equal to this one, with nothing in it that is the same object."""
    cuts = tuple(tuple(list(cut)) for cut in system.cuts)
    return System(Table(system.table.many, tuple(tuple(list(row)) for row in system.table.rows)), system.depths, cuts)


def told(call, **arguments):
    """Return a picture of what a call returns or raises."""
    try:
        return unchanged(call(**arguments))
    except LockError as error:
        return type(error).__name__, unchanged(list(vars(error).values()))


def calls_of_table(table):
    """Return calls for a table, as functions with their other arguments by name."""
    found = [(outs, {})]
    for depths, kind in product((2, 3), ("plain", "deep")):
        found.append((fewest, {"depths": depths, "kind": kind}))
        for k in (1, 2, 4):
            found += [(call, {"depths": depths, "k": k, "kind": kind}) for call in (cuts_for, walls)]
            found.append((walls_hold, {"depths": depths, "k": k, "kind": kind, "value": ((outs(table),),) * (k + 1)}))
        found.append((kept_out, {"parting": tuple(key % depths for key in range(table.many)), "kind": kind}))
        for cuts in (tuple((key % depths,) for key in range(table.many)), ((0,),) * table.many):
            found += [(are_cuts, {"depths": depths, "value": cuts}), (fits, {"depths": depths, "cuts": cuts})]
    return found


def calls_of_system(system):
    """Return calls for a system, as functions with their other arguments by name."""
    cut = tuple(depth // 2 for depth in system.cuts[0])
    found = [(ghosts, {}), (threats, {}), (opened, {"cut": system.cuts[-1]}), (opened, {"cut": cut})]
    for lock in (0, 1):
        found += [(filed, {"key": key, "lock": lock}) for key in range(3)]
        found += [(made_of, {"keys": keys, "lock": lock}) for keys in ((0,), (0, 1), (1, 2), (0, 1, 2))]
        found += [(makers, {"lock": lock}), (key_cuts, {"locks": (lock,)})]
        found.append((with_key, {"locks": (lock,), "cut": cut}))
    for keys in ((0,), (0, 1), (1, 2)):
        found += [(lock_fits, {"keys": keys}), (with_lock, {"keys": keys})]
    return found + [(key_cuts, {"locks": ()}), (with_key, {"locks": (), "cut": system.cuts[0]})]


def calls_of_thing(thing):
    """Return calls of questions, claims and papers for a table or system."""
    found = []
    for question in questions_of(thing)[::7]:
        found += [(is_question, {"value": question}), (answer_of, {"question": question})]
        found.append((paper_of, {"question": question}))
        for claim in claims_for(thing, question):
            found += [(is_claim, {"value": claim}), (question_of, {"claim": claim})]
            found.append((claim_holds, {"claim": claim, "paper": paper_of(thing, question)}))
    return found


def all_calls():
    """Return calls of all functions with the arguments by name, in the order of their parameters."""
    calls = []
    for table in (ONE, TWO, APART, FULL, Table(4, ((0, 1), (2,), (1, 2, 3)))):
        calls += [(call, {"table": table, **more}) for call, more in calls_of_table(table)]
        calls += [(call, {"thing": table, **more}) for call, more in calls_of_thing(table)]
    for system in [System(TWO, 2, TWO_CUTS), System(APART, 2, APART_CUTS)] + some_systems()[::6] + odd_systems()[::20]:
        calls += [(call, {"system": system, **more}) for call, more in calls_of_system(system)]
        calls += [(call, {"thing": system, **more}) for call, more in calls_of_thing(system)]
        calls.append((least_stacks, {"cuts": system.cuts, "keys": (0,)}))
        calls.append((falls, {"cut": system.cuts[-1], "stacks": least_stacks(system.cuts, (0,))}))
    for k, d in product((1, 2, 4), (2, 3)):
        calls.append((greatest, {"k": k, "d": d}))
        for many in (0, 1, 3):
            calls += [(layer, {"k": k, "d": d, "many": many})]
            value = ((0,) * k,) * many
            calls += [(call, {"k": k, "d": d, "value": value}) for call in (are_master_cuts, share)]
    return calls + [(master_table, {"n": n}) for n in range(6)]


class AllCalls(unittest.TestCase):

    @classmethod
    def setUpClass(cls):
        cls.calls = all_calls()
        cls.told = [told(call, **arguments) for call, arguments in cls.calls]

    def test_there_are_many(self):
        self.assertGreater(len(self.calls), 1000)
        self.assertEqual(len({call for call, _ in self.calls}), 31)

    def test_by_position_and_by_name_in_any_order(self):
        for (call, arguments), wanted in zip(self.calls, self.told):
            self.assertEqual(told(lambda: call(*arguments.values())), wanted)
            self.assertEqual(told(call, **dict(reversed(list(arguments.items())))), wanted)

    def test_by_turns(self):
        # All tables and systems are made ahead; the calls come in the other order now.
        again = [told(call, **arguments) for call, arguments in reversed(self.calls)]
        self.assertEqual(again, list(reversed(self.told)))

    def test_equal_tables_and_systems_are_told_the_same(self):
        made = {"table": a_table, "system": a_system, "thing": lambda t: (a_table if isinstance(t, Table) else a_system)(t)}
        for (call, arguments), wanted in zip(self.calls, self.told):
            other = {name: made.get(name, lambda value: value)(value) for name, value in arguments.items()}
            self.assertEqual(told(call, **other), wanted)

    def test_no_argument_is_changed(self):
        for call, arguments in self.calls:
            before = {name: unchanged(value) for name, value in arguments.items()}
            told(call, **arguments)
            self.assertEqual({name: unchanged(value) for name, value in arguments.items()}, before)

    def test_tuples_of_a_class_of_their_own(self):
        for (call, arguments), wanted in zip(self.calls, self.told):
            if not isinstance(wanted, tuple) or not str(wanted[0]).startswith(("Invalid", "Undefined")):
                other = {name: in_rows(value) for name, value in arguments.items()}
                self.assertEqual(told(call, **other), wanted, call)


class TheOverview(unittest.TestCase):
    """Each promise is tested with its points; here is what goes for all systems that are made in any way."""

    def test_what_is_opened_is_what_the_table_tells(self):
        for system in some_systems() + odd_systems() + large_systems():
            for key, cut in enumerate(system.cuts):
                row = tuple(lock for lock, keys in enumerate(system.table.rows) if key in keys)
                self.assertEqual(opened(system, cut), row)

    def test_a_key_and_a_lock_more_open_what_they_shall_and_no_other_key_does(self):
        for system in odd_systems()[::3]:
            for locks in ((), (0,)):
                for cut in key_cuts(system, locks)[::3]:
                    if system.table.many < 5:
                        new = with_key(system, locks, cut)
                        self.assertEqual(opened(new, cut), locks)
                        for key in range(system.table.many):
                            self.assertEqual(opened(new, system.cuts[key]), opened(system, system.cuts[key]))

    def test_deep_cuts_have_no_threats_and_no_claims_of_them(self):
        for table in (TWO, APART):
            k = fewest(table, 3, "deep")
            system = System(table, 3, cuts_for(table, 3, k, "deep"))
            self.assertEqual(threats(system), ())
            for key, lock in outs(table):
                self.assertEqual(answer_of(system, ("threat", key, lock)), ("safe", key, lock))


if __name__ == "__main__":
    unittest.main()
