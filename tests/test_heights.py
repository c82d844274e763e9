"""heights and heights_hold of point 7."""

import copy
import random
import unittest

from sortedshelves.forms import above, greatest, heights, heights_hold
from tests.reference import (
    blown_up, chain, changed, doubled, naive_above, random_form, random_machine, reach, ring, shuffled, simple_rings,
    tailed_ring, timed, value_of, wheel,
)

KIND = (2, ((0, 1), (0, None)), (True, True))


def are_heights(machine, form, bound, value):
    """The rule of the document, word by word."""
    letters, rows, ends = machine
    if value.__class__ is not tuple or len(value) != len(rows):
        return False
    if any(item is not None and item.__class__ is not int for item in value):
        return False
    if value[0] is None or value[0] < 0:
        return False
    for state in range(len(rows)):
        if value[state] is not None:
            for letter in range(letters):
                target = rows[state][letter]
                if target is not None:
                    if value[target] is None or value[target] < value[state] + form[letter]:
                        return False
            if ends[state] is True and value[state] > bound:
                return False
    return True


def gains(machine, form):
    """Whether a ring that is come to, wherever it leads, is worth more than 0."""
    reached = reach(machine)[0]
    return any(state in reached and value_of(form, word) > 0 for state, word in simple_rings(machine))


def cases(seed, many):
    chance = random.Random(seed)
    for _ in range(many):
        letters, states = chance.randint(1, 3), chance.randint(1, 5)
        machine = random_machine(chance, states, letters, chance.random() * 0.7, chance.random())
        yield chance, machine, random_form(chance, letters), chance.choice((0, 1, 5, -1, 50, 1000, -1000, -100))


class Heights(unittest.TestCase):
    def test_small_machines(self):
        told = {True: 0, False: 0}
        for _, machine, form, bound in cases(201, 1200):
            found = heights(machine, form, bound)
            self.assertEqual(heights(machine, form, bound), found)
            none = gains(machine, form) or naive_above(machine, form, bound) is not None
            self.assertEqual(found is None, none, (machine, form, bound))
            told[none] += 1
            if not none:
                self.assertTrue(are_heights(machine, form, bound, found), (machine, form, bound, found))
                self.assertIs(heights_hold(machine, form, bound, found), True)
                self.assertTrue(all(item is None or abs(item) < 10 ** 60 for item in found))
        self.assertGreater(min(told.values()), 300)

    def test_bounds_one_apart(self):
        # None just from the greatest worth down.
        for _, machine, form, _ in cases(202, 400):
            known = greatest(machine, form)
            if known[0] == "most" and not gains(machine, form):
                self.assertIsNone(heights(machine, form, known[1] - 1))
                self.assertIsNotNone(heights(machine, form, known[1]))
            if known[0] == "ring":
                self.assertIsNone(heights(machine, form, 1000))
            if known[0] == "none":
                self.assertEqual(heights(machine, form, -1000) is None, gains(machine, form))

    def test_rings(self):
        # Worth more than 0, though it leads to no end.
        self.assertIsNone(heights((2, ((1, 2), (1, None), (None, None)), (False, False, True)), (1, 1), 1000))
        self.assertIsNone(heights((1, ((0,),), (False,)), (1,), 1000))
        # Worth nothing.
        machine = (2, ((1, 2), (1, None), (None, None)), (False, False, True))
        self.assertTrue(are_heights(machine, (0, 1), 1, heights(machine, (0, 1), 1)))
        # No word comes to it.
        alone = (1, ((1,), (None,), (2,)), (True,) * 3)
        self.assertTrue(are_heights(alone, (9,), 9, heights(alone, (9,), 9)))
        self.assertIsNone(heights(alone, (9,), 8))

    def test_the_bound(self):
        self.assertIsNone(heights(KIND, (0, 0), -1))
        self.assertIsNotNone(heights(KIND, (0, 0), 0))
        self.assertIsNone(heights(KIND, (-2, 2), 1))
        self.assertIsNotNone(heights(KIND, (-2, 2), 2))
        self.assertIsNotNone(heights(chain(12, 1, {11}), (-99,), -1000))
        self.assertIsNone(heights(chain(11, 1, {10}), (-99,), -1000))
        self.assertIsNotNone(heights(ring(3, ()), (-1,), -1000))

    def test_400_states(self):
        for seed in range(3):
            machine = shuffled(wheel(400, ((1, 1), (1, 3), (3, 2)), {0}), seed)
            for form in ((-1, -2, -3), (0, 0, 0), (0, -99, -1)):
                found = timed(heights, machine, form, 0)
                self.assertTrue(are_heights(machine, form, 0, found))
                self.assertIs(timed(heights_hold, machine, form, 0, found), True)
                self.assertIs(timed(heights_hold, machine, form, -1, found), False)
            self.assertIsNone(timed(heights, machine, (-99, 99, -98), 1000))
        self.assertTrue(are_heights(chain(400), (99,), 99 * 399, timed(heights, chain(400), (99,), 99 * 399)))
        back = (1, tuple(((s - 1) % 400,) for s in range(400)), (False,) * 400)
        self.assertIsNone(timed(heights, back, (1,), 1000))
        self.assertTrue(are_heights(back, (-1,), -1000, timed(heights, back, (-1,), -1000)))
        tail = tailed_ring(399, 1, {399})
        self.assertTrue(are_heights(tail, (0,), 0, timed(heights, tail, (0,), 0)))
        many = blown_up(KIND, 400, 3)
        self.assertTrue(are_heights(many, (-2, 2), 2, timed(heights, many, (-2, 2), 2)))
        self.assertIsNone(timed(heights, many, (-2, 2), 1))

    def test_by_name(self):
        self.assertTrue(are_heights(KIND, (-2, 2), 5, heights(machine=KIND, form=(-2, 2), bound=5)))


class HeightsHold(unittest.TestCase):
    def test_any_values(self):
        held = {True: 0, False: 0}
        for chance, machine, form, bound in cases(203, 700):
            kind = heights(machine, form, bound)
            start = kind if kind is not None else tuple(chance.choice((None, 0, 1, 9)) for _ in machine[1])
            for _ in range(6):
                value = start
                for _ in range(chance.randint(0, 2)):
                    value = changed(chance, value)
                kept = copy.deepcopy(value)
                found = heights_hold(machine, form, bound, value)
                self.assertIs(found, are_heights(machine, form, bound, value), (machine, form, bound, value))
                self.assertIs(heights_hold(machine, form, bound, value), found)
                self.assertEqual(value, kept)
                held[found] += 1
        self.assertGreater(min(held.values()), 500)

    def test_greater_and_lesser_heights(self):
        held = {True: 0, False: 0}
        for chance, machine, form, bound in cases(204, 700):
            start = heights(machine, form, bound)
            if start is None:
                continue
            for _ in range(6):
                value = tuple(
                    chance.choice((item, item, item + 1, item - 1, None, item + 100, item + 10 ** 58))
                    if item is not None else chance.choice((None, None, 0, -5, 7)) for item in start
                )
                found = heights_hold(machine, form, bound, value)
                self.assertIs(found, are_heights(machine, form, bound, value), (machine, form, bound, value))
                held[found] += 1
        self.assertGreater(min(held.values()), 100)

    def test_the_document(self):
        self.assertIs(heights_hold(KIND, (-2, 2), 2, (0, 2)), True)
        self.assertIs(heights_hold(KIND, (-2, 2), 3, (1, 3)), True)
        self.assertIs(heights_hold(KIND, (-2, 2), 2, (1, 3)), False)
        self.assertIs(heights_hold(KIND, (-2, 2), 2, (0, 1)), False)
        self.assertIs(heights_hold(KIND, (-2, 2), 2, (-1, 1)), False)
        self.assertIs(heights_hold(KIND, (-2, 2), 2, (None, 2)), False)
        self.assertIs(heights_hold(KIND, (-2, 2), 2, (0, None)), False)

    def test_other_kinds_of_values(self):
        for value in (None, True, 0, "", "02", [0, 2], {0: 0, 1: 2}, (), (0,), (0, 2, None), (0, 2, 2), (False, 2),
                      (0, True), (0, "2"), (0, (2,)), (0, [2]), ((0, 2),), (0, {}), "0" * 5000, (0,) * 6000):
            self.assertIs(heights_hold(KIND, (-2, 2), 2, value), False, value)
        self.assertIs(heights_hold(KIND, (0, 0), 1, (True, True)), False)
        self.assertIs(heights_hold(KIND, (0, 0), 1, (1, True)), False)
        self.assertIs(heights_hold(KIND, (0, 0), 1, (1, 1)), True)
        deep = ()
        for _ in range(19):
            deep = (deep,)
        self.assertIs(heights_hold(KIND, (0, 0), 1, (0, deep)), False)
        self.assertIs(heights_hold((1, ((None,),), (True,)), (5,), 0, deep), False)

    def test_none_where_no_word_comes(self):
        alone = (1, ((1,), (None,), (2,)), (True,) * 3)
        self.assertIs(heights_hold(alone, (-1,), 0, (0, 0, None)), True)
        self.assertIs(heights_hold(alone, (-1,), 0, (0, 0, -5)), True)
        self.assertIs(heights_hold(alone, (-1,), 0, (0, 0, 1)), False)
        self.assertIs(heights_hold(alone, (1,), 1, (0, 1, 0)), False)

    def test_of_another_bound_or_form(self):
        for chance, machine, form, bound in cases(205, 400):
            found = heights(machine, form, bound)
            if found is not None:
                for other in (bound - 1, bound - 100, bound + 1, -1000):
                    self.assertIs(heights_hold(machine, form, other, found), are_heights(machine, form, other, found))
                other = random_form(chance, machine[0])
                self.assertIs(heights_hold(machine, other, bound, found), are_heights(machine, other, bound, found))
                self.assertIs(heights_hold(doubled(machine), form, bound, found), False)

    def test_what_holds_is_so(self):
        for chance, machine, form, bound in cases(206, 600):
            value = tuple(chance.choice((None, 0, 1, 2, 5)) for _ in machine[1])
            if heights_hold(machine, form, bound, value):
                self.assertIsNone(above(machine, form, bound))

    def test_by_name(self):
        self.assertIs(heights_hold(machine=KIND, form=(-2, 2), bound=2, value=(0, 2)), True)


if __name__ == "__main__":
    unittest.main()
