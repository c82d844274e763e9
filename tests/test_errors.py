"""The list of error classes behind point 24."""

import ast
import pathlib
import unittest

import sortedshelves
from sortedshelves import errors
from sortedshelves.errors import ShelfError

FIELDS = {
    "BadText": ("line",),
    "BadPlan": ("error",),
    "BadWord": ("word",),
    "BadQuery": ("query",),
    "BadLine": ("error",),
    "BadComp": ("error",),
    "BadRoom": ("room",),
    "BadPage": ("first", "many"),
    "Outside": ("word",),
    "Crowded": (),
    "Full": (),
    "Faulty": ("fault",),
    "Unsure": ("reason", "evidence"),
    "Unlike": (),
    "TooGreat": (),
    "Busy": (),
    "TooManyEdits": (),
    "NothingToUndo": (),
    "NothingToRedo": (),
    "BadEdits": (),
    "BadEdit": ("index",),
    "Rejected": ("index",),
    "NoWord": ("index",),
    "NoVersion": ("version",),
}
LOOKUPS = ("NoWord", "NoVersion")
VALUES = (
    None, True, False, 0, -1, 10 ** 59, "", "words\nand lines", b"bytes", (), (1, (2, None)), [], [1, [2]],
    {}, {"a": [1], (1, 2): None}, object(), 1.5, ValueError("x"), len,
)


class Errors(unittest.TestCase):
    def test_all_are_there(self):
        for name in FIELDS:
            self.assertTrue(isinstance(getattr(errors, name), type), name)
            self.assertEqual(getattr(errors, name).__name__, name)

    def test_defined_in_the_file(self):
        path = pathlib.Path(sortedshelves.__file__).parent / "errors.py"
        tree = ast.parse(path.read_text())
        names = {node.name for node in tree.body if isinstance(node, ast.ClassDef)}
        self.assertEqual(names, set(FIELDS) | {"ShelfError"})

    def test_those_with_fields_have_constructors_of_their_own(self):
        for name, fields in FIELDS.items():
            if fields:
                self.assertIn("__init__", vars(getattr(errors, name)), name)

    def test_fields_by_position_are_the_very_objects(self):
        for name, fields in FIELDS.items():
            for at in range(len(VALUES)):
                values = [VALUES[(at + k) % len(VALUES)] for k in range(len(fields))]
                made = getattr(errors, name)(*values)
                for field, value in zip(fields, values):
                    self.assertIs(getattr(made, field), value)

    def test_fields_by_name_are_the_very_objects(self):
        for name, fields in FIELDS.items():
            for at in range(len(VALUES)):
                values = {field: VALUES[(at + k) % len(VALUES)] for k, field in enumerate(fields)}
                made = getattr(errors, name)(**values)
                for field, value in values.items():
                    self.assertIs(getattr(made, field), value)

    def test_fields_by_position_and_by_name_mixed(self):
        first, many = [1], {"many": 2}
        made = errors.BadPage(first, many=many)
        self.assertIs(made.first, first)
        self.assertIs(made.many, many)
        made = errors.Unsure(evidence=many, reason=first)
        self.assertIs(made.reason, first)
        self.assertIs(made.evidence, many)

    def test_number_of_fields(self):
        for name, fields in FIELDS.items():
            if fields:
                with self.assertRaises(TypeError):
                    getattr(errors, name)(*[0] * (len(fields) - 1))
                with self.assertRaises(TypeError):
                    getattr(errors, name)(*[0] * (len(fields) + 1))

    def test_fields_can_be_changed_apart(self):
        one, other = errors.BadWord("a"), errors.BadWord("b")
        self.assertEqual((one.word, other.word), ("a", "b"))

    def test_shelf_error_is_a_value_error_made_from_nothing(self):
        self.assertIs(ShelfError.__bases__[0], ValueError)
        self.assertIsInstance(ShelfError(), ValueError)

    def test_what_they_derive_from(self):
        for name in FIELDS:
            made = getattr(errors, name)
            if name in LOOKUPS:
                self.assertTrue(issubclass(made, LookupError))
                self.assertFalse(issubclass(made, ValueError))
                self.assertFalse(issubclass(made, ShelfError))
                self.assertFalse(issubclass(made, (KeyError, IndexError)))
            else:
                self.assertTrue(issubclass(made, ShelfError))
                self.assertTrue(issubclass(made, ValueError))
                self.assertFalse(issubclass(made, LookupError))

    def test_none_is_one_of_another_class(self):
        for name in FIELDS:
            for other in FIELDS:
                if name != other:
                    self.assertFalse(issubclass(getattr(errors, name), getattr(errors, other)), (name, other))

    def test_raised_and_caught(self):
        for name, fields in FIELDS.items():
            made = getattr(errors, name)
            base = LookupError if name in LOOKUPS else ShelfError
            values = [object() for _ in fields]
            with self.assertRaises(base) as caught:
                raise made(*values)
            self.assertIs(caught.exception.__class__, made)
            for field, value in zip(fields, values):
                self.assertIs(getattr(caught.exception, field), value)
            str(caught.exception)


if __name__ == "__main__":
    unittest.main()
