"""The names, arguments and files of the interface, and that calls keep nothing and change nothing (point 3)."""

import ast
import copy
import importlib
import inspect
import pathlib
import random
import unittest

import sortedshelves
from sortedshelves import comps, forms, limits, lines, machines, orders, queries, ranks, runs, shelves, steps, texts
from tests.naive import random_query, some_comp, some_kind
from tests.reference import random_comp, random_form, random_line, random_pairs, random_unit, random_word, timed
from tests.shelfplans import good_plan, some_item

FUNCTIONS = {
    "machines": {
        "machine_error": ("value",),
        "is_of": ("machine", "word"),
        "told": ("machine", "length", "most"),
        "count": ("machine", "length"),
        "size": ("machine",),
        "goes_on": ("machine",),
        "smallest": ("machine",),
        "both": ("one", "other"),
        "either": ("one", "other"),
        "less": ("one", "other"),
        "begins": ("machine",),
        "backwards": ("machine",),
        "apart": ("one", "other"),
    },
    "forms": {
        "worth": ("form", "word"),
        "greatest": ("machine", "form"),
        "above": ("machine", "form", "bound"),
        "heights": ("machine", "form", "bound"),
        "heights_hold": ("machine", "form", "bound", "value"),
    },
    "limits": {
        "breach": ("machine", "one", "other"),
        "most_kept": ("machine", "limit", "form"),
    },
    "steps": {
        "line_error": ("letters", "value"),
        "image": ("line", "word"),
    },
    "comps": {
        "comp_error": ("value",),
        "tells": ("comp", "one", "other"),
        "by_ranks": ("letters", "ranks"),
        "by_length": ("letters",),
        "turned": ("comp",),
        "then": ("one", "other"),
    },
    "lines": {
        "alike": ("kind", "one", "other"),
        "again": ("kind", "line"),
        "leaves": ("kind", "line", "target"),
        "overlong": ("kind", "line", "limit"),
        "loses": ("kind", "line"),
        "unsorts": ("kind", "comp", "line"),
        "images": ("kind", "line"),
        "sources": ("target", "line"),
        "greatest_image": ("kind", "line", "form"),
    },
    "orders": {
        "self_fault": ("kind", "comp"),
        "turn_fault": ("kind", "comp"),
        "chain_fault": ("kind", "comp"),
        "first_fault": ("kind", "comp"),
        "is_order": ("kind", "comp"),
        "order_paper": ("kind", "comp"),
        "paper_holds": ("kind", "comp", "value"),
        "unlike": ("kind", "one", "other"),
        "tie": ("kind", "comp"),
    },
    "ranks": {
        "rank": ("kind", "comp", "word"),
        "alikes": ("kind", "comp", "word"),
        "between": ("kind", "comp", "low", "high"),
        "between_count": ("kind", "comp", "low", "high"),
        "least": ("kind", "comp"),
        "leaders": ("kind", "comp", "many"),
        "just_above": ("kind", "comp", "word"),
    },
    "queries": {
        "query_error": ("letters", "value"),
        "answers": ("comp", "query", "word"),
        "asked": ("kind", "comp", "query"),
        "same": ("kind", "comp", "one", "other"),
    },
    "texts": {
        "plan_error": ("value",),
        "plan_text": ("plan",),
        "parse_plan": ("value",),
    },
    "runs": {
        "run_error": ("value",),
        "replayed": ("run",),
        "kept": ("run",),
        "joined": ("base", "one", "other"),
        "fewest_runs": ("base", "goal"),
    },
}
# The methods of the classes: their arguments, and those by keyword alone with what they are if they are left out.
METHODS = {
    "shelves": {
        "Shelf": {
            "__init__": ("plan",), "put": ("word",), "take": ("index",), "weed": ("query",), "lay": ("line",),
            "reorder": ("comp",), "widen": ("room",), "undo": (), "redo": (), "attempt": ("edits", "*watch"),
            "find": ("query",), "places": ("word",), "page": ("first", "many"), "moves": ("comp",),
            "plan_at": ("*version",), "age": (), "edits": (),
        },
        "SureShelf": {"__init__": ("plan",)},
    },
    "consoles": {"Console": {"__init__": ("shelf",), "execute": ("line",)}},
}
OPERATORS = {"__getitem__", "__iadd__", "__isub__", "__len__", "__str__", "__eq__"}
FOLDER = pathlib.Path(sortedshelves.__file__).parent
MODULES = [
    importlib.import_module(f"sortedshelves.{path.stem}") for path in sorted(FOLDER.glob("*.py")) if path.stem[0] != "_"
]


class Interface(unittest.TestCase):
    def test_names_and_arguments(self):
        for module, functions in FUNCTIONS.items():
            held = importlib.import_module(f"sortedshelves.{module}")
            for name, arguments in functions.items():
                signature = inspect.signature(getattr(held, name))
                self.assertEqual(tuple(signature.parameters), arguments, name)
                for parameter in signature.parameters.values():
                    self.assertIs(parameter.kind, inspect.Parameter.POSITIONAL_OR_KEYWORD)
                    self.assertIs(parameter.default, inspect.Parameter.empty)

    def test_defined_in_their_files(self):
        for module, functions in FUNCTIONS.items():
            tree = ast.parse((FOLDER / f"{module}.py").read_text())
            defined = {node.name for node in tree.body if isinstance(node, ast.FunctionDef)}
            self.assertEqual(set(functions) - defined, set())

    def test_classes(self):
        for module, classes in METHODS.items():
            tree = ast.parse((FOLDER / f"{module}.py").read_text())
            defined = {node.name: node for node in tree.body if isinstance(node, ast.ClassDef)}
            for name, methods in classes.items():
                own = {node.name for node in defined[name].body if isinstance(node, ast.FunctionDef)}
                self.assertEqual(set(methods) - own, set())
                held = getattr(importlib.import_module(f"sortedshelves.{module}"), name)
                for method, arguments in methods.items():
                    parameters = list(inspect.signature(getattr(held, method)).parameters.values())[1:]
                    names = [("*" if one.kind is one.KEYWORD_ONLY else "") + one.name for one in parameters]
                    self.assertEqual(tuple(names), arguments, (name, method))
                    for one in parameters:
                        self.assertIs(one.default, None if one.kind is one.KEYWORD_ONLY else one.empty)
                if name == "Shelf":
                    self.assertEqual(OPERATORS - own, set())
        self.assertEqual((shelves.Shelf.MOST_EDITS, shelves.SureShelf.__bases__), (80, (shelves.Shelf,)))


def state():
    """All plain values that stand in the modules."""
    plain = (int, str, tuple, list, dict)
    return [
        (module.__name__, name, copy.deepcopy(value))
        for module in MODULES
        for name, value in vars(module).items() if isinstance(value, plain) and not name.startswith("__")
    ]


class NothingKept(unittest.TestCase):
    def test_machines(self):
        before = state()
        for one, other in random_pairs(61, 20):
            kept = copy.deepcopy((one, other))
            for _ in range(2):
                for call in (machines.smallest, machines.begins, machines.backwards, machines.goes_on):
                    self.assertEqual(call(one), call(one))
                for call in (machines.both, machines.either, machines.less, machines.apart):
                    self.assertEqual(call(one, other), call(one, other))
            self.assertEqual((one, other), kept)
        self.assertEqual(state(), before)

    def test_forms_limits_steps_and_comparisons(self):
        before = state()
        chance = random.Random(62)
        for machine, _ in random_pairs(62, 60):
            letters = machine[0]
            form, unit = random_form(chance, letters), random_unit(chance, letters)
            one, other = random_comp(chance, letters, 4), random_comp(chance, letters, 5)
            word = random_word(chance, letters, 6)
            calls = (
                (forms.worth, form, word), (forms.greatest, machine, form), (forms.above, machine, form, 20),
                (forms.heights, machine, form, 3), (forms.heights_hold, machine, form, 3, (0,) * len(machine[1])),
                (limits.breach, machine, (unit, 5), (form, 3)), (limits.most_kept, machine, (unit, 7), form),
                (steps.image, random_line(chance, letters), word), (steps.line_error, letters, random_line(chance, 3)),
                (comps.comp_error, one), (comps.tells, one, word, word[2:]), (comps.turned, one),
                (comps.then, one, other), (comps.by_ranks, letters, form), (comps.by_length, letters),
            )
            kept = copy.deepcopy([call[1:] for call in calls])
            told = [call[0](*call[1:]) for call in calls]
            self.assertEqual([call[0](*call[1:]) for call in calls[::-1]][::-1], told)
            self.assertEqual([call[1:] for call in calls], kept)
        self.assertEqual(state(), before)

    def test_lines_orders_ranks_and_queries(self):
        before = state()
        chance = random.Random(63)
        for _ in range(60):
            letters = chance.randint(1, 3)
            kind, comp, other = some_kind(chance, letters, 4), some_comp(chance, letters, 4), some_comp(chance, letters, 4)
            line, query = random_line(chance, letters), random_query(chance, letters, 3)
            word, limit = random_word(chance, letters, 5), (random_unit(chance, letters), 4)
            form, second = random_form(chance, letters), random_query(chance, letters, 2)
            calls = (
                (lines.alike, kind, line, line[:1]), (lines.again, kind, line), (lines.leaves, kind, line, kind),
                (lines.overlong, kind, line, limit), (lines.loses, kind, line), (lines.unsorts, kind, comp, line),
                (lines.images, kind, line), (lines.sources, kind, line), (lines.greatest_image, kind, line, form),
                (orders.self_fault, kind, comp), (orders.turn_fault, kind, comp), (orders.chain_fault, kind, comp),
                (orders.first_fault, kind, comp), (orders.is_order, kind, comp), (orders.order_paper, kind, comp),
                (orders.paper_holds, kind, comp, orders.order_paper(kind, comp)), (orders.unlike, kind, comp, other),
                (orders.tie, kind, comp), (ranks.rank, kind, comp, word), (ranks.alikes, kind, comp, word),
                (ranks.between, kind, comp, word, word[1:]), (ranks.between_count, kind, comp, word, word[1:]),
                (ranks.least, kind, comp), (ranks.leaders, kind, comp, 4), (ranks.just_above, kind, comp, word),
                (queries.query_error, letters, query), (queries.answers, comp, query, word),
                (queries.asked, kind, comp, query), (queries.same, kind, comp, query, second),
            )
            kept = copy.deepcopy([call[1:] for call in calls])
            told = [timed(*call) for call in calls]
            self.assertEqual([timed(*call) for call in calls[::-1]][::-1], told)
            self.assertEqual([call[1:] for call in calls], kept)
            for call, found in zip(calls, told):
                names = FUNCTIONS[call[0].__module__.split(".")[1]][call[0].__name__]
                self.assertEqual(timed(named, call[0], dict(list(zip(names, call[1:]))[::-1])), found)
        self.assertEqual(state(), before)

    def test_texts_shelves_and_runs(self):
        before = state()
        chance = random.Random(64)
        for _ in range(40):
            plan = good_plan(chance)
            words = [tuple(random_word(chance, 2, 1) for _ in range(4)) for _ in range(3)]
            run = (plan, tuple(some_item(chance, plan) for _ in range(6)))
            calls = (
                (texts.plan_error, plan), (texts.plan_text, plan), (texts.parse_plan, texts.plan_text(plan)),
                (runs.run_error, run), (runs.replayed, run), (runs.kept, run), (runs.joined, *words),
                (runs.fewest_runs, *words[:2]),
            )
            kept = copy.deepcopy([call[1:] for call in calls])
            told = [timed(*call) for call in calls]
            self.assertEqual([timed(*call) for call in calls[::-1]][::-1], told)
            for call, found in zip(calls, told):
                names = FUNCTIONS[call[0].__module__.split(".")[1]][call[0].__name__]
                self.assertEqual(timed(named, call[0], dict(list(zip(names, call[1:]))[::-1])), found)
            one, other = shelves.Shelf(plan), shelves.Shelf(plan=plan)
            for name, value in run[1]:
                argument = METHODS["shelves"]["Shelf"][name][0]
                self.assertEqual(timed(getattr(one, name), value), timed(named, getattr(other, name), {argument: value}))
            self.assertEqual(one.edits(), other.edits())
            self.assertEqual([call[1:] for call in calls], kept)
        self.assertEqual(state(), before)

    def test_methods_by_name_in_another_order(self):
        plan = ((2, ((0, 0),), (True,)), comps.by_length(2), (), None, ("a", "b"))
        shelf = shelves.SureShelf(plan=plan)
        self.assertEqual([shelf.page(many=1, first=1), shelf.find(query=("is", "b")), shelf.places(word="a")],
                         [("b",), (1,), (0, 2)])
        self.assertEqual([shelf.attempt(watch=None, edits=[("put", "")]), shelf.put(word="a"), shelf.take(index=0)], [1, 2, 3])
        self.assertEqual([shelf.weed(query=("is", "a")), shelf.lay(line=()), shelf.reorder(comp=comps.by_length(2)),
                          shelf.widen(room=None), shelf.moves(comp=comps.by_length(2)), shelf.plan_at(version=None)],
                         [4, 5, 6, 7, 0, plan[:4] + (("b",),)])


def named(call, arguments):
    """What the call returns if all arguments are passed by name."""
    return call(**arguments)


if __name__ == "__main__":
    unittest.main()
