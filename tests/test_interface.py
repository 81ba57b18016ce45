"""Tests that the interface of the document exists as written."""

import importlib
import inspect
import unittest

INTERFACE = {
    "chambercuts.tables": {"Table": ["many", "rows"], "outs": ["table"]},
    "chambercuts.cuts": {
        "are_cuts": ["table", "depths", "value"], "least_stacks": ["cuts", "keys"],
        "falls": ["cut", "stacks"], "fits": ["table", "depths", "cuts"],
    },
    "chambercuts.partings": {
        "kept_out": ["table", "parting", "kind"], "cuts_for": ["table", "depths", "k", "kind"],
        "fewest": ["table", "depths", "kind"],
    },
    "chambercuts.walls": {
        "walls": ["table", "depths", "k", "kind"], "walls_hold": ["table", "depths", "k", "kind", "value"],
    },
    "chambercuts.systems": {
        "System": ["table", "depths", "cuts"], "opened": ["system", "cut"], "ghosts": ["system"],
    },
    "chambercuts.filing": {"filed": ["system", "key", "lock"], "threats": ["system"]},
    "chambercuts.making": {"made_of": ["system", "keys", "lock"], "makers": ["system", "lock"]},
    "chambercuts.later": {
        "lock_fits": ["system", "keys"], "with_lock": ["system", "keys"],
        "key_cuts": ["system", "locks"], "with_key": ["system", "locks", "cut"],
    },
}
METHODS = {
    "chambercuts.tables": {"Table": ["__init__", "__eq__"]},
    "chambercuts.systems": {"System": ["__init__", "__eq__"]},
}


class TheInterface(unittest.TestCase):

    def test_names_are_defined_in_the_file_that_lists_them(self):
        for module, names in INTERFACE.items():
            for name in names:
                self.assertEqual(getattr(importlib.import_module(module), name).__module__, module)

    def test_parameters_have_the_names_that_are_written(self):
        for module, names in INTERFACE.items():
            for name, parameters in names.items():
                thing = getattr(importlib.import_module(module), name)
                self.assertEqual(list(inspect.signature(thing).parameters), parameters)

    def test_methods_are_defined_in_the_class_itself(self):
        for module, classes in METHODS.items():
            for name, methods in classes.items():
                for method in methods:
                    self.assertIn(method, vars(getattr(importlib.import_module(module), name)))


if __name__ == "__main__":
    unittest.main()
