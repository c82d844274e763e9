"""machine_error of point 4."""

import copy
import unittest

from sortedshelves import machines
from sortedshelves.machines import machine_error
from tests.reference import chain, ring

KIND = (2, ((0, 1), (0, None)), (True, True))


class MachineError(unittest.TestCase):
    def refuses(self, part, *values):
        for value in values:
            self.assertEqual(machine_error(value), part, value)

    def test_machines(self):
        for value in (
            KIND,
            (1, ((None,),), (False,)),
            (1, ((0,),), (True,)),
            (3, ((None, None, None),), (True,)),
            (3, ((0, 1, None), (1, 1, 1)), (False, True)),
            ring(400, {0}, 3),
            chain(400, 2),
        ):
            self.assertIsNone(machine_error(value))

    def test_results_are_machines(self):
        for one in (KIND, ring(5, {2}, 2), (2, ((None, None),), (False,))):
            for call in (machines.smallest, machines.begins, machines.backwards):
                self.assertIsNone(machine_error(call(one)))
            for call in (machines.both, machines.either, machines.less):
                self.assertIsNone(machine_error(call(one, KIND)))

    def test_machine(self):
        self.refuses(
            "machine", None, True, False, 0, 3, -10 ** 59, "", "abc", (), (2,), KIND[:2], KIND + (None,), list(KIND),
            {}, {0: 2, 1: KIND[1], 2: KIND[2]}, {"a": 1, "b": 2, "c": 3}, [], [KIND], (KIND,), "2" * 5000,
            [1, 2, 3], ("a", "b"), (1, 2, 3, 4), KIND + KIND,
        )

    def test_letters(self):
        for letters in (None, True, False, 0, 4, -1, -2, 10 ** 59, "2", (2,), [2], {2: 2}, "", ()):
            self.refuses("letters", (letters,) + KIND[1:])
        self.refuses("letters", (True, ((0,),), (True,)), (0, ((),), (True,)), ("a", "b", "c"))
        self.refuses("letters", (4, ((0, 0, 0, 0),), (True,)))

    def test_rows(self):
        for rows in (
            None, True, 1, "ab", (), [], [(0, 1), (0, None)], {}, {0: (0, 1), 1: (0, None)},
            ((0, 1), [0, None]), ([0, 1], (0, None)), ((0, 1), None), ((0, 1), (0,)), ((0, 1), (0, None, None)),
            ((0, 1), ()), ((0, 1, 0), (0, 1, 0)), ((0, 1), (0, 2)), ((0, 1), (0, -1)), ((0, 2), (0, 1)),
            ((0, 1), (0, True)), ((False, 1), (0, 1)), ((0, 1), (0, "1")), ((0, 1), (0, (1,))), ((0, 1), (0, [])),
            ((0, 1), (0, 10 ** 59)), ((0, 1), "01"), ((0, 1), {0: 0, 1: 1}), (0, 1), ("ab", "ab"),
            ((0, 1), ((0,), (1,))), ((0, 1), (0, "")), ((0, 1), (0, "None")),
        ):
            self.refuses("rows", (2, rows, (True, True)))

    def test_too_many_rows(self):
        self.refuses("rows", ring(401, {0}), chain(401, 3), ring(2000, {0}))

    def test_ends(self):
        for ends in (
            None, True, 0, "ab", (), [True, True], {}, {0: True, 1: True}, (True,), (True, True, True), (True, 1),
            (0, True), (True, None), (True, "True"), (True, (True,)), (True, [True]), (0, 1), ((), ()),
        ):
            self.refuses("ends", KIND[:2] + (ends,))
        self.refuses("ends", (1, ((0,),), ()), (1, ((0,),), (1,)), (1, ((0,),), (None,)))
        self.refuses("ends", ring(400, {0})[:2] + ((True,) * 399 + (1,),))

    def test_the_first_is_told(self):
        self.refuses("machine", [0, None, None], (0, None), (0, None, None, None))
        self.refuses("letters", (0, None, None), (0, ((0, 2),), ()), (True, (), ()), (None, None, None))
        self.refuses("rows", (2, None, None), (2, ((0, 9),), ()), (2, (), ()), (3,) + KIND[1:], (1,) + KIND[1:])
        self.refuses("ends", (2, ((0, None),), None), (2, ((0, None),), (True, True)))

    def test_nested_values(self):
        deep = ()
        for _ in range(19):
            deep = (deep,)
        self.refuses("machine", deep, [deep, deep, deep], {0: deep})
        self.refuses("letters", (deep, deep, deep))
        self.refuses("rows", (2, deep, deep), (2, ((0, deep), (0, 1)), (True, True)))
        self.refuses("ends", KIND[:2] + (deep,), KIND[:2] + ((True, deep),))
        self.refuses("rows", (2, tuple((0, 0) for _ in range(2000)), ()))

    def test_the_value_stays_as_it_is(self):
        for value in ([1, [2, [3]]], {"a": [1]}, (2, [[0, 1]], [True]), (2, ((0, [1]),), {"x": 1}), KIND):
            kept = copy.deepcopy(value)
            self.assertEqual(machine_error(value), machine_error(value=value))
            self.assertEqual(value, kept)


if __name__ == "__main__":
    unittest.main()
