"""Tests that the interface of the document exists as written."""

import importlib
import inspect
import unittest

INTERFACE = {
    "chambercuts.tables": {"Table": ["many", "rows"], "outs": ["table"]},
    "chambercuts.cuts": {
        "are_cuts": ["table", "depths", "value"], "least_stacks": ["cuts", "keys"],
        "falls": ["cut", "stacks"], "fits": ["table", "depths", "cuts"],
    },
    "chambercuts.partings": {
        "kept_out": ["table", "parting", "kind"], "cuts_for": ["table", "depths", "k", "kind"],
        "fewest": ["table", "depths", "kind"],
    },
    "chambercuts.walls": {
        "walls": ["table", "depths", "k", "kind"], "walls_hold": ["table", "depths", "k", "kind", "value"],
    },
    "chambercuts.systems": {
        "System": ["table", "depths", "cuts"], "opened": ["system", "cut"], "ghosts": ["system"],
    },
    "chambercuts.filing": {"filed": ["system", "key", "lock"], "threats": ["system"]},
    "chambercuts.making": {"made_of": ["system", "keys", "lock"], "makers": ["system", "lock"]},
    "chambercuts.later": {
        "lock_fits": ["system", "keys"], "with_lock": ["system", "keys"],
        "key_cuts": ["system", "locks"], "with_key": ["system", "locks", "cut"],
    },
    "chambercuts.masters": {
        "are_master_cuts": ["k", "d", "value"], "greatest": ["k", "d"], "layer": ["k", "d", "many"],
        "share": ["k", "d", "value"], "master_table": ["n"],
    },
    "chambercuts.claims": {
        "is_question": ["thing", "value"], "is_claim": ["thing", "value"], "answer_of": ["thing", "question"],
        "question_of": ["thing", "claim"],
    },
    "chambercuts.papers": {"paper_of": ["thing", "question"], "claim_holds": ["thing", "claim", "paper"]},
    "chambercuts.desk": {"Desk": ["system"], "same_state": ["one", "other"]},
}
METHODS = {
    "chambercuts.tables": {"Table": {"__init__": ["many", "rows"], "__eq__": ["other"]}},
    "chambercuts.systems": {"System": {"__init__": ["table", "depths", "cuts"], "__eq__": ["other"]}},
    "chambercuts.desk": {
        "Desk": {
            "__init__": ["system"], "issue": ["locks", "cut"], "mount": ["keys"], "revoke": ["key"], "unmount": ["lock"],
            "recut": ["key", "cut"], "watch": ["question"], "leave": ["question"], "undo": [], "redo": [],
            "claim": ["question"], "paper": ["question"], "report": [],
        },
    },
}


class TheInterface(unittest.TestCase):

    def test_names_are_defined_in_the_file_that_lists_them(self):
        for module, names in INTERFACE.items():
            for name in names:
                self.assertEqual(getattr(importlib.import_module(module), name).__module__, module)

    def test_parameters_have_the_names_that_are_written(self):
        for module, names in INTERFACE.items():
            for name, parameters in names.items():
                thing = getattr(importlib.import_module(module), name)
                self.assertEqual(list(inspect.signature(thing).parameters), parameters)

    def test_methods_are_defined_in_the_class_itself(self):
        for module, classes in METHODS.items():
            for name, methods in classes.items():
                for method, parameters in methods.items():
                    own = vars(getattr(importlib.import_module(module), name))
                    self.assertIn(method, own)
                    self.assertEqual(list(inspect.signature(own[method]).parameters)[1:], parameters)


if __name__ == "__main__":
    unittest.main()
