"""plan_error (point 16)."""

import copy
import random
import unittest

from sortedshelves.comps import by_length, by_ranks, comp_error, tells, turned
from sortedshelves.machines import machine_error
from sortedshelves.orders import first_fault
from sortedshelves.steps import line_error
from sortedshelves.texts import plan_error
from tests.naive import all_words, sums
from tests.reference import changed, holds, random_word, timed, value_of, wheel
from tests.shelfmodel import is_room
from tests.shelfplans import ODD_VALUES, good_plan

EVERY = all_words(2)
ONE = all_words(1)
PLAIN = by_ranks(2, (0, 1))
GOOD = (EVERY, PLAIN, (("stop", "a"),), ((1, 2), 9), ("", "aa", "ab", "b"))
FOUR_STEPS = (("stop", "a"),) * 4


def naive_plan_error(value):
    """What plan_error returns, by its definition."""
    if not isinstance(value, tuple) or len(value) != 5:
        return ("plan", None)
    kind, comp, line, room, words = value
    if machine_error(kind) is not None:
        return ("kind", machine_error(kind))
    if len(kind[1]) > 6:
        return ("kind", "states")
    if comp_error(comp) is not None:
        return ("comp", comp_error(comp))
    if comp[0] != kind[0]:
        return ("comp", "letters")
    if line_error(kind[0], line) is not None:
        return ("line", line_error(kind[0], line))
    if not is_room(kind[0], room):
        return ("room", None)
    if not isinstance(words, tuple) or len(words) > 60:
        return ("words", None)
    for word in words:
        if not isinstance(word, str) or len(word) > 200 or set(word) - set("abc"[:kind[0]]) or not holds(kind, word):
            return ("words", None)
    if first_fault(kind, comp) is not None:
        return ("order", first_fault(kind, comp))
    for k, (one, other) in enumerate(zip(words, words[1:])):
        if tells(comp, one, other) == 1:
            return ("sorted", k)
    if room is not None and sum(value_of(room[0], word) for word in words) > room[1]:
        return ("room", "full")
    return None


def with_part(at, part):
    """The good plan with another part."""
    return GOOD[:at] + (part,) + GOOD[at + 1:]


class PlanError(unittest.TestCase):
    def test_good_plans_and_changed_ones(self):
        chance = random.Random(1601)
        told = {}
        for _ in range(120):
            plan = good_plan(chance)
            self.assertIsNone(plan_error(plan), plan)
            for _ in range(25):
                value = changed(chance, plan)
                if chance.random() < 0.3:
                    value = changed(chance, value)
                kept = copy.deepcopy(value)
                found = plan_error(value)
                self.assertEqual(repr(found), repr(naive_plan_error(value)), value)
                self.assertEqual(repr(value), repr(kept))
                told[found and found[0]] = told.get(found and found[0], 0) + 1
        for name in (None, "plan", "kind", "comp", "line", "room", "words"):
            self.assertGreater(told[name], 20, name)

    def test_parts_of_other_plans(self):
        chance = random.Random(1602)
        told = {}
        for _ in range(1500):
            one, other = good_plan(chance), good_plan(chance)
            value = tuple(part if chance.random() < 0.8 else beside for part, beside in zip(one, other))
            if chance.random() < 0.3:
                value = value[:4] + (value[4][::-1],)
            if chance.random() < 0.3 and isinstance(value[3], tuple):
                value = value[:3] + ((value[3][0], chance.randint(0, 4)), value[4])
            found = plan_error(value)
            self.assertEqual(found, naive_plan_error(value), value)
            told[found and found[0]] = told.get(found and found[0], 0) + 1
        for name in (None, "comp", "order", "sorted", "words"):
            self.assertGreater(told[name], 5, name)

    def test_each_answer(self):
        self.assertIsNone(plan_error(GOOD))
        for value in (GOOD[:4], GOOD + ((),), list(GOOD), (), None):
            self.assertEqual(plan_error(value), ("plan", None))
        self.assertEqual(plan_error(with_part(0, None)), ("kind", "machine"))
        self.assertEqual(plan_error(with_part(0, (4, ((0, 0),), (True,)))), ("kind", "letters"))
        self.assertEqual(plan_error(with_part(0, (2, ((0, 1),), (True,)))), ("kind", "rows"))
        self.assertEqual(plan_error(with_part(0, (2, ((0, 0),), (1,)))), ("kind", "ends"))
        self.assertEqual(plan_error(with_part(1, None)), ("comp", "comp"))
        self.assertEqual(plan_error(with_part(1, (0,) + PLAIN[1:])), ("comp", "letters"))
        self.assertEqual(plan_error(with_part(1, by_length(3))), ("comp", "letters"))
        self.assertEqual(plan_error(with_part(1, by_length(1))), ("comp", "letters"))
        self.assertEqual(plan_error(with_part(1, (2, PLAIN[1], (0, -1)))), ("comp", "verdicts"))
        self.assertEqual(plan_error(with_part(2, [])), ("line", (None, "line")))
        self.assertEqual(plan_error(with_part(2, (("stop", "a"), ("stop", "c")))), ("line", (1, "step")))
        self.assertEqual(plan_error(with_part(2, FOUR_STEPS)), ("line", (None, "many")))
        self.assertEqual(plan_error(with_part(4, ("", "c"))), ("words", None))
        self.assertEqual(plan_error(with_part(1, (2, ((0,) * 8,), (1,)))), ("order", ""))
        self.assertEqual(plan_error(with_part(1, (2, ((0, 1) + (0,) * 6, (1,) * 8), (0, 1)))), ("order", ("a", "b")))
        self.assertEqual(plan_error(with_part(4, ("aa", "b", "ab", "a"))), ("sorted", 1))
        self.assertEqual(plan_error(with_part(4, ("aa", "b", "ba", "a"))), ("sorted", 2))
        self.assertEqual(plan_error(with_part(3, ((1, 2), 6))), ("room", "full"))
        self.assertIsNone(plan_error(with_part(3, ((1, 2), 7))))

    def test_words_told_the_same_are_sorted(self):
        self.assertIsNone(plan_error((EVERY, by_length(2), (), None, ("b", "a", "b", "bb", "aa"))))
        self.assertEqual(plan_error((EVERY, turned(by_length(2)), (), None, ("b", "a", "bb"))), ("sorted", 1))

    def test_rooms(self):
        for room in (None, ((0, 0), 0), ((9, 9), 10 ** 6), ((0, 9), 18)):
            self.assertIsNone(plan_error(with_part(3, room)), room)
        for room in (((0, 0), 10 ** 6 + 1), ((0, 0), -1), ((0, 10), 9), ((0, -1), 9), ((0,), 9), ((0, 0, 0), 9), ((0, 0),),
                     ((0, 0), 9, 9), [(0, 0), 9], ([0, 0], 9), ((True, 0), 9), ((0, 0), True), ((0, 0), None), (), 0, False):
            self.assertEqual(plan_error(with_part(3, room)), ("room", None), room)

    def test_words_at_the_bounds(self):
        long, longer = "a" * 200, "a" * 201
        self.assertIsNone(plan_error((ONE, by_length(1), (), None, (long,) * 60)))
        self.assertEqual(plan_error((ONE, by_length(1), (), None, (long,) * 61)), ("words", None))
        self.assertEqual(plan_error((ONE, by_length(1), (), None, (longer,))), ("words", None))
        self.assertIsNone(plan_error((ONE, by_length(1), (), ((9,), 108000), (long,) * 60)))
        self.assertEqual(plan_error((ONE, by_length(1), (), ((9,), 107999), (long,) * 60)), ("room", "full"))
        for words in ([], ["a"], "a", ("a", None), ("a", 0), (("a",),), ("A",), ("a b",), {"a": 1}, None):
            self.assertEqual(plan_error((ONE, by_length(1), (), None, words)), ("words", None), words)
        self.assertEqual(plan_error((wheel(2, ((1, 1),), (0,)), by_length(1), (), None, ("aa", "aaa"))), ("words", None))

    def test_states_and_rows_at_the_bounds(self):
        rows = tuple((k, k, k) for k in range(60))
        six, seven = wheel(6, ((1, 1),), (0,)), wheel(7, ((1, 1),), (0,))
        self.assertIsNone(plan_error((six, (1, rows, (0,) * 60), (), None, ("", "aaaaaa"))))
        self.assertEqual(plan_error((seven, (1, rows, (0,) * 60), (), None, ("",))), ("kind", "states"))
        self.assertEqual(plan_error((wheel(400, ((1, 1),), (0,)), None, (), None, ())), ("kind", "states"))
        self.assertEqual(plan_error((wheel(401, ((1, 1),), (0,)), None, (), None, ())), ("kind", "rows"))
        self.assertEqual(plan_error((six, (1, rows + ((0, 0, 0),), (0,) * 61), (), None, ())), ("comp", "rows"))

    def test_the_first_one_where_several_are_wrong(self):
        wrong = [(1, ((0, 0),), (True,)), by_length(3), FOUR_STEPS, 7, ("c",)]
        names = [("kind", "rows"), ("comp", "letters"), ("line", (None, "many")), ("room", None), ("words", None)]
        for at, name in enumerate(names):
            self.assertEqual(plan_error(GOOD[:at] + tuple(wrong[at:])), name)
        faulty = (2, ((0,) * 8,), (1,))
        self.assertEqual(plan_error((EVERY, faulty, (), ((1, 1), 0), ("b", "a"))), ("order", ""))
        self.assertEqual(plan_error((EVERY, faulty, (), ((1, 1), 0), ("c", "a"))), ("words", None))
        self.assertEqual(plan_error((EVERY, PLAIN, (), ((1, 1), 0), ("b", "a"))), ("sorted", 0))

    def test_odd_values(self):
        for value in ODD_VALUES:
            self.assertEqual(plan_error(value), ("plan", None))
            for at in range(5):
                held = GOOD[:at] + (value,) + GOOD[at + 1:]
                self.assertEqual(plan_error(held), naive_plan_error(held), held)

    def test_great_sizes(self):
        chance = random.Random(1603)
        kind, comp = wheel(6, ((1, 1), (1, 2), (5, 1)), (0, 2, 3)), sums(3, 7, (1, 2, 4))
        words = []
        while len(words) < 60:
            word = random_word(chance, 3, 200)
            words += [word] if holds(kind, word) else []
        self.assertEqual(timed(plan_error, (kind, comp, (), ((9, 9, 9), 10 ** 6), tuple(words)))[0], "sorted")


if __name__ == "__main__":
    unittest.main()
