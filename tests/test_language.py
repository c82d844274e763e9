"""The rules of LANGUAGE.md that can be seen in the text of a file without much work."""

import ast
import builtins
import pathlib
import unittest

import sortedshelves

FOLDER = pathlib.Path(sortedshelves.__file__).parent
BUILTINS = set(
    "len range enumerate zip min max sum abs sorted reversed int str bool bytes list tuple dict set frozenset "
    "isinstance ord repr any all divmod map iter next super property staticmethod classmethod Exception ValueError "
    "TypeError KeyError IndexError LookupError ZeroDivisionError ArithmeticError OverflowError RuntimeError "
    "NotImplementedError AttributeError StopIteration NotImplemented".split()
)
# "_" is left there by an interactive Python, the other ones are in each module.
PYTHON = {name for name in dir(builtins) if not name.startswith("_")}
LIBRARY = {
    "heapq": {"heappush", "heappop", "heapify", "heapreplace", "heappushpop"},
    "math": {"gcd", "lcm", "isqrt", "comb", "perm", "factorial"},
    "itertools": {"product", "combinations", "permutations"},
}
METHODS = set(
    "append clear copy count endswith extend find get index insert isalnum isalpha isdigit islower isspace isupper "
    "items join keys ljust lower lstrip partition pop remove replace reverse rfind rjust rpartition rsplit rstrip "
    "setdefault split splitlines startswith strip update upper values zfill bit_length add discard".split()
)
BARRED = set(
    "register mro elements open input law version_info with_traceback add_note attrgetter breakpoint builtins "
    "compile copyright credits delattr dir eval exec exit gc getattr globals hasattr help id importlib license locals "
    "methodcaller os quit setattr type vars sys typing enum Enum Flag Generic Protocol ABC namedtuple "
    "dataclass overload contextmanager".split()
)
GATHERERS = {"any", "all", "min", "max", "sum", "sorted"}
PASSING = {"range", "zip", "enumerate", "reversed", "map"}
VIEWS = {"items", "keys", "values"}
# What takes such a call as its first argument and iterates it on the spot.
TAKERS = {"list", "tuple", "dict", "sorted", "sum", "any", "all", "enumerate", "zip"}
NODES = (
    ast.Global, ast.AsyncFunctionDef, ast.AsyncFor, ast.AsyncWith, ast.Await, ast.Div, ast.MatMult, ast.TryStar,
    ast.AnnAssign, ast.Delete,
)


def files():
    return sorted(FOLDER.glob("**/*.py"))


def trees():
    return [(path.name, ast.parse(path.read_text())) for path in files()]


def bound_names(tree):
    """All names that are given to variables, parameters, functions and classes."""
    for node in ast.walk(tree):
        if isinstance(node, ast.Name) and isinstance(node.ctx, ast.Store):
            yield node.id
        elif isinstance(node, ast.arg):
            yield node.arg
        elif isinstance(node, (ast.FunctionDef, ast.ClassDef)):
            yield node.name


def own_methods():
    """The names of the methods of the package's classes."""
    return {
        part.name for _, tree in trees() for node in tree.body if isinstance(node, ast.ClassDef)
        for part in node.body if isinstance(part, ast.FunctionDef) and not part.name.startswith("__")
    }


def local_names(tree):
    """The names of parameters, local variables and nested functions."""
    for node in ast.walk(tree):
        if isinstance(node, ast.FunctionDef):
            for below in node.body:
                yield from bound_names(below)
            yield from (argument.arg for argument in node.args.args)


class Language(unittest.TestCase):
    def test_folder(self):
        self.assertLessEqual(len(files()), 100)
        for path in FOLDER.glob("**/*"):
            if "__pycache__" not in path.parts:
                self.assertEqual((path.suffix, path.name), (".py", path.name.lower()))

    def test_size_and_characters(self):
        for path in files():
            text = path.read_text(encoding="utf-8")
            self.assertTrue(all(sign == "\n" or " " <= sign <= "~" for sign in text), path.name)
            lines = text.splitlines()
            self.assertLessEqual(len(lines), 399, path.name)
            for at, line in enumerate(lines, 1):
                self.assertLessEqual(len(line), 120, (path.name, at))

    def test_functions_are_small(self):
        for name, tree in trees():
            for node in ast.walk(tree):
                if isinstance(node, ast.FunctionDef):
                    self.assertLessEqual(node.end_lineno - node.lineno + 1, 40, (name, node.name))

    def test_imports(self):
        for name, tree in trees():
            for node in ast.walk(tree):
                self.assertNotIsInstance(node, ast.Import, name)
                if not isinstance(node, ast.ImportFrom):
                    continue
                self.assertIn(node, tree.body, name)
                names = {alias.name for alias in node.names}
                if node.module in LIBRARY:
                    self.assertLessEqual(names, LIBRARY[node.module])
                    continue
                package, module = node.module.split(".")
                self.assertEqual(package, "sortedshelves", name)
                there = ast.parse((FOLDER / f"{module}.py").read_text())
                kept = set(bound_names(ast.Module([part for part in there.body if not isinstance(
                    part, (ast.FunctionDef, ast.ClassDef))], [])))
                kept |= {part.name for part in there.body if isinstance(part, (ast.FunctionDef, ast.ClassDef))}
                self.assertLessEqual(names, kept, name)

    def test_module_level(self):
        for name, tree in trees():
            for node in tree.body:
                docstring = isinstance(node, ast.Expr) and isinstance(node.value, ast.Constant)
                self.assertTrue(
                    docstring or isinstance(node, (ast.ImportFrom, ast.FunctionDef, ast.ClassDef, ast.Assign)), name
                )

    def test_builtins(self):
        for name, tree in trees():
            for node in ast.walk(tree):
                if isinstance(node, ast.Name) and node.id in PYTHON:
                    self.assertIn(node.id, BUILTINS, (name, node.lineno))
                if isinstance(node, ast.Name) and node.id == "_":
                    self.assertIsInstance(node.ctx, ast.Store, (name, node.lineno))

    def test_names(self):
        for name, tree in trees():
            taken = {alias.name for node in tree.body if isinstance(node, ast.ImportFrom) for alias in node.names}
            taken |= {node.name for node in tree.body if isinstance(node, ast.ClassDef)}
            for bound in bound_names(tree):
                self.assertNotIn(bound, BARRED, name)
                self.assertNotIn(bound, PYTHON, name)
                self.assertTrue(not bound.startswith("__") or bound.endswith("__"), (name, bound))
            self.assertEqual(taken & set(local_names(tree)), set(), name)

    def test_statements_and_expressions(self):
        for name, tree in trees():
            for node in ast.walk(tree):
                where = (name, getattr(node, "lineno", None))
                self.assertNotIsInstance(node, NODES, where)
                if isinstance(node, ast.Constant):
                    self.assertNotIsInstance(node.value, (float, complex), where)
                    self.assertFalse(isinstance(node.value, str) and "%" in node.value, where)
                if isinstance(node, ast.BinOp) and isinstance(node.op, ast.Pow):
                    self.assertIsInstance(node.right, ast.Constant, where)
                if isinstance(node, ast.Compare) and any(isinstance(op, (ast.Is, ast.IsNot)) for op in node.ops):
                    self.assertIsInstance(node.comparators[0], ast.Constant, where)
                if isinstance(node, ast.FunctionDef):
                    self.assertEqual(node.decorator_list, [], where)

    def test_calls(self):
        own = own_methods()
        for name, tree in trees():
            called = {id(node.func) for node in ast.walk(tree) if isinstance(node, ast.Call)}
            for node in ast.walk(tree):
                if isinstance(node, ast.Attribute) and node.attr in own:
                    self.assertIn(id(node), called, (name, node.lineno))
                if not isinstance(node, ast.Call):
                    continue
                where = (name, node.lineno)
                if isinstance(node.func, ast.Attribute):
                    if node.func.attr == "__init__" and ast.unparse(node.func) == "super().__init__":
                        continue
                    self.assertIn(node.func.attr, METHODS | own, where)
                elif isinstance(node.func, ast.Name) and node.func.id in GATHERERS:
                    # A class that compares is to come, and beside one these take lists alone.
                    self.assertFalse(any(isinstance(part, ast.GeneratorExp) for part in node.args), where)

    def test_constructors_return_nothing(self):
        for name, tree in trees():
            for node in ast.walk(tree):
                if isinstance(node, ast.FunctionDef) and node.name == "__init__":
                    returned = [part for part in ast.walk(node) if isinstance(part, (ast.Return, ast.Lambda))]
                    self.assertEqual(returned, [], (name, node.lineno))

    def test_names_of_errors_stand_in_no_text(self):
        for name, tree in trees():
            for node in ast.walk(tree):
                if isinstance(node, ast.JoinedStr):
                    self.assertNotIn("__", ast.unparse(node), (name, node.lineno))

    def test_what_is_iterated_is_not_changed(self):
        for name, tree in trees():
            for loop in ast.walk(tree):
                if isinstance(loop, ast.For):
                    read = {part.id for part in ast.walk(loop.iter) if isinstance(part, ast.Name)}
                    self.assertEqual(read & set(changed_names(loop)), set(), (name, loop.lineno))

    def test_ranges_zips_and_views_are_iterated_on_the_spot(self):
        for name, tree in trees():
            for line in kept_or_passed(tree):
                self.fail((name, line))

    def test_names_in_comprehensions(self):
        for name, tree in trees():
            self.assertEqual(list(taken_again(tree, [])), [], name)


FUNCTIONS = (ast.FunctionDef, ast.Lambda)
COMPREHENSIONS = (ast.ListComp, ast.SetComp, ast.DictComp, ast.GeneratorExp)


def stored(node):
    """The names that are assigned in the node, not those of functions and comprehensions in it."""
    if isinstance(node, ast.Name) and isinstance(node.ctx, ast.Store):
        yield node.id
    for part in ast.iter_child_nodes(node):
        if not isinstance(part, FUNCTIONS + COMPREHENSIONS):
            yield from stored(part)


def assigned(node):
    """The names that a function or a comprehension assigns."""
    if isinstance(node, FUNCTIONS):
        return {argument.arg for argument in node.args.args} | set(stored(node))
    return {name for part in node.generators for name in stored(part.target)}


def taken_again(node, around):
    """The variables of comprehensions in nested functions and in comprehensions that are names further out (L7)."""
    for part in ast.iter_child_nodes(node):
        if isinstance(part, COMPREHENSIONS) and len(around) > 1:
            for outer in around:
                yield from ((part.lineno, name) for name in assigned(part) & assigned(outer) - {"_"})
        held = [part] if isinstance(part, FUNCTIONS + COMPREHENSIONS) else []
        yield from taken_again(part, around + held)


class TakenAgain(unittest.TestCase):
    def test_finds_them(self):
        text = "def f(row):\n    def g(rows):\n        return [{} for {} in rows]\n    return g\n"
        self.assertEqual([len(list(taken_again(ast.parse(text.format(name, name)), []))) for name in ("row", "rows", "k")],
                         [1, 1, 0])
        self.assertEqual(list(taken_again(ast.parse("def f(row):\n    return [row for row in row]"), [])), [])
        self.assertEqual(len(list(taken_again(ast.parse("[[k for k in j] for k in j]"), []))), 0)
        self.assertEqual(len(list(taken_again(ast.parse("def f():\n    return [[k for k in j] for k in j]"), []))), 1)


def passing(node):
    """Whether the node is a call of range, zip and the like, or of a view of a dict."""
    if not isinstance(node, ast.Call):
        return False
    if isinstance(node.func, ast.Name):
        return node.func.id in PASSING
    return isinstance(node.func, ast.Attribute) and node.func.attr in VIEWS and not node.args


def kept_or_passed(tree):
    """The lines with a range, zip or view that is stored, passed on or returned (L23); none is kept here at all."""
    spots = set()
    for node in ast.walk(tree):
        if isinstance(node, (ast.For, ast.comprehension)):
            spots.add(id(node.iter))
        elif isinstance(node, ast.Call) and isinstance(node.func, ast.Name) and node.args:
            if node.func.id in TAKERS or (node.func.id in ("min", "max") and len(node.args) == 1):
                spots.add(id(node.args[0]))
        elif isinstance(node, ast.Call) and isinstance(node.func, ast.Attribute) and node.func.attr == "join":
            spots.update(id(part) for part in node.args)
    return [node.lineno for node in ast.walk(tree) if passing(node) and id(node) not in spots]


class KeptOrPassed(unittest.TestCase):
    def test_finds_them(self):
        for text in ("f(range(3))", "x = range(3)", "def f(d):\n    return d.items()", "[zip(a, b)]", "f(1, d.keys())",
                     "max(range(3), 1)", "f(k for k in xs)(range(2))", "x = (1, enumerate(xs))", "s.add(reversed(xs))"):
            self.assertEqual(len(kept_or_passed(ast.parse(text))), 1, text)
        for text in ("for k in range(3): pass", "f(list(range(3)))", "[k for k, v in d.items()]", "max(d.values())",
                     "sum(d.values(), start=1)", "f(xs.index(1), tuple(zip(a, b)))", "','.join(map(str, xs))"):
            self.assertEqual(kept_or_passed(ast.parse(text)), [], text)


def changed_names(loop):
    """The names of what is changed in place, or assigned again, in the loop."""
    for node in ast.walk(loop):
        if isinstance(node, ast.Subscript) and isinstance(node.ctx, ast.Store) and isinstance(node.value, ast.Name):
            yield node.value.id
        elif isinstance(node, ast.Call) and isinstance(node.func, ast.Attribute):
            if isinstance(node.func.value, ast.Name) and node.func.attr in (
                "append", "clear", "extend", "insert", "pop", "remove", "reverse", "setdefault", "update",
            ):
                yield node.func.value.id
        elif isinstance(node, ast.AugAssign) and isinstance(node.target, ast.Name):
            yield node.target.id


if __name__ == "__main__":
    unittest.main()
