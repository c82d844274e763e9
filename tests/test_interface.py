"""The names, arguments and files of the interface, and that calls keep nothing and change nothing (point 3)."""

import ast
import copy
import importlib
import inspect
import pathlib
import unittest

import sortedshelves
from sortedshelves import graphs, machines
from tests.reference import random_pairs

FUNCTIONS = {
    "machines": {
        "machine_error": ("value",),
        "is_of": ("machine", "word"),
        "told": ("machine", "length", "most"),
        "count": ("machine", "length"),
        "size": ("machine",),
        "goes_on": ("machine",),
        "smallest": ("machine",),
        "both": ("one", "other"),
        "either": ("one", "other"),
        "less": ("one", "other"),
        "begins": ("machine",),
        "backwards": ("machine",),
        "apart": ("one", "other"),
    },
}
FOLDER = pathlib.Path(sortedshelves.__file__).parent


class Interface(unittest.TestCase):
    def test_names_and_arguments(self):
        for module, functions in FUNCTIONS.items():
            held = importlib.import_module(f"sortedshelves.{module}")
            for name, arguments in functions.items():
                signature = inspect.signature(getattr(held, name))
                self.assertEqual(tuple(signature.parameters), arguments, name)
                for parameter in signature.parameters.values():
                    self.assertIs(parameter.kind, inspect.Parameter.POSITIONAL_OR_KEYWORD)
                    self.assertIs(parameter.default, inspect.Parameter.empty)

    def test_defined_in_their_files(self):
        for module, functions in FUNCTIONS.items():
            tree = ast.parse((FOLDER / f"{module}.py").read_text())
            defined = {node.name for node in tree.body if isinstance(node, ast.FunctionDef)}
            self.assertEqual(set(functions) - defined, set())


class NothingKept(unittest.TestCase):
    def test_modules_stay_as_they_are(self):
        def state(module):
            plain = (int, str, tuple, list, dict)
            return {name: copy.deepcopy(value) for name, value in vars(module).items()
                    if isinstance(value, plain) and not name.startswith("__")}

        before = state(machines), state(graphs)
        for one, other in random_pairs(61, 20):
            kept = copy.deepcopy((one, other))
            for _ in range(2):
                for call in (machines.smallest, machines.begins, machines.backwards, machines.goes_on):
                    self.assertEqual(call(one), call(one))
                for call in (machines.both, machines.either, machines.less, machines.apart):
                    self.assertEqual(call(one, other), call(one, other))
            self.assertEqual((one, other), kept)
        self.assertEqual((state(machines), state(graphs)), before)


if __name__ == "__main__":
    unittest.main()
