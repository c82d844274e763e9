"""The names, arguments and files of the interface, and that calls keep nothing and change nothing (point 3)."""

import ast
import copy
import importlib
import inspect
import pathlib
import random
import unittest

import sortedshelves
from sortedshelves import bounds, checks, comps, counted, forms, graphs, limits, machines, steps
from tests.reference import random_comp, random_form, random_line, random_pairs, random_unit, random_word

FUNCTIONS = {
    "machines": {
        "machine_error": ("value",),
        "is_of": ("machine", "word"),
        "told": ("machine", "length", "most"),
        "count": ("machine", "length"),
        "size": ("machine",),
        "goes_on": ("machine",),
        "smallest": ("machine",),
        "both": ("one", "other"),
        "either": ("one", "other"),
        "less": ("one", "other"),
        "begins": ("machine",),
        "backwards": ("machine",),
        "apart": ("one", "other"),
    },
    "forms": {
        "worth": ("form", "word"),
        "greatest": ("machine", "form"),
        "above": ("machine", "form", "bound"),
        "heights": ("machine", "form", "bound"),
        "heights_hold": ("machine", "form", "bound", "value"),
    },
    "limits": {
        "breach": ("machine", "one", "other"),
        "most_kept": ("machine", "limit", "form"),
    },
    "steps": {
        "line_error": ("letters", "value"),
        "image": ("line", "word"),
    },
    "comps": {
        "comp_error": ("value",),
        "tells": ("comp", "one", "other"),
        "by_ranks": ("letters", "ranks"),
        "by_length": ("letters",),
        "turned": ("comp",),
        "then": ("one", "other"),
    },
}
FOLDER = pathlib.Path(sortedshelves.__file__).parent


class Interface(unittest.TestCase):
    def test_names_and_arguments(self):
        for module, functions in FUNCTIONS.items():
            held = importlib.import_module(f"sortedshelves.{module}")
            for name, arguments in functions.items():
                signature = inspect.signature(getattr(held, name))
                self.assertEqual(tuple(signature.parameters), arguments, name)
                for parameter in signature.parameters.values():
                    self.assertIs(parameter.kind, inspect.Parameter.POSITIONAL_OR_KEYWORD)
                    self.assertIs(parameter.default, inspect.Parameter.empty)

    def test_defined_in_their_files(self):
        for module, functions in FUNCTIONS.items():
            tree = ast.parse((FOLDER / f"{module}.py").read_text())
            defined = {node.name for node in tree.body if isinstance(node, ast.FunctionDef)}
            self.assertEqual(set(functions) - defined, set())


def state():
    """All plain values that stand in the modules."""
    plain = (int, str, tuple, list, dict)
    return [
        (module.__name__, name, copy.deepcopy(value))
        for module in (bounds, checks, comps, counted, forms, graphs, limits, machines, steps)
        for name, value in vars(module).items() if isinstance(value, plain) and not name.startswith("__")
    ]


class NothingKept(unittest.TestCase):
    def test_machines(self):
        before = state()
        for one, other in random_pairs(61, 20):
            kept = copy.deepcopy((one, other))
            for _ in range(2):
                for call in (machines.smallest, machines.begins, machines.backwards, machines.goes_on):
                    self.assertEqual(call(one), call(one))
                for call in (machines.both, machines.either, machines.less, machines.apart):
                    self.assertEqual(call(one, other), call(one, other))
            self.assertEqual((one, other), kept)
        self.assertEqual(state(), before)

    def test_forms_limits_steps_and_comparisons(self):
        before = state()
        chance = random.Random(62)
        for machine, _ in random_pairs(62, 60):
            letters = machine[0]
            form, unit = random_form(chance, letters), random_unit(chance, letters)
            one, other = random_comp(chance, letters, 4), random_comp(chance, letters, 5)
            word = random_word(chance, letters, 6)
            calls = (
                (forms.worth, form, word), (forms.greatest, machine, form), (forms.above, machine, form, 20),
                (forms.heights, machine, form, 3), (forms.heights_hold, machine, form, 3, (0,) * len(machine[1])),
                (limits.breach, machine, (unit, 5), (form, 3)), (limits.most_kept, machine, (unit, 7), form),
                (steps.image, random_line(chance, letters), word), (steps.line_error, letters, random_line(chance, 3)),
                (comps.comp_error, one), (comps.tells, one, word, word[2:]), (comps.turned, one),
                (comps.then, one, other), (comps.by_ranks, letters, form), (comps.by_length, letters),
            )
            kept = copy.deepcopy([call[1:] for call in calls])
            told = [call[0](*call[1:]) for call in calls]
            self.assertEqual([call[0](*call[1:]) for call in calls[::-1]][::-1], told)
            self.assertEqual([call[1:] for call in calls], kept)
        self.assertEqual(state(), before)


if __name__ == "__main__":
    unittest.main()
