"""run_error, replayed, kept, joined, fewest_runs (points 22 and 23)."""

import copy
import random
import unittest
from collections import Counter

from sortedshelves.comps import by_length, by_ranks
from sortedshelves.runs import fewest_runs, joined, kept, replayed, run_error
from sortedshelves.shelves import Shelf
from sortedshelves.texts import plan_error
from tests.naive import all_words, sums
from tests.reference import changed, random_word, timed, wheel
from tests.shelfmodel import NAMES, outcome
from tests.shelfplans import ODD_VALUES, good_plan, some_item

EVERY = all_words(2)
PLAIN = by_ranks(2, (0, 1))
EMPTY = (EVERY, PLAIN, (), None, ())


class Endless(Shelf):
    """A shelf without regard to how many edits stand, for the tests alone."""

    MOST_EDITS = 10 ** 9


def some_entry(chance, plan):
    way = chance.randrange(10)
    if way < 7:
        return some_item(chance, plan)
    return ("undo",) if way < 9 else ("redo",)


def some_run(chance, many):
    plan = good_plan(chance)
    return (plan, tuple(some_entry(chance, plan) for _ in range(many)))


def naive_run_error(value):
    if not isinstance(value, tuple) or len(value) != 2:
        return ("run", None)
    if plan_error(value[0]) is not None:
        return ("plan", plan_error(value[0]))
    if not isinstance(value[1], tuple) or len(value[1]) > 120:
        return ("entries", None)
    for k, entry in enumerate(value[1]):
        if not isinstance(entry, tuple):
            return ("entry", k)
        if len(entry) == 1 and isinstance(entry[0], str) and entry[0] in ("undo", "redo"):
            continue
        if len(entry) != 2 or not isinstance(entry[0], str) or entry[0] not in NAMES:
            return ("entry", k)
    return None


def on_a_shelf(run):
    """The shelf of the run in the end, and what its entries return or raise."""
    shelf, told = Endless(run[0]), []
    for name, *values in run[1]:
        found = outcome(getattr(shelf, name), *values)
        told.append(found[1] if isinstance(found, tuple) else found)
    return shelf, tuple(told)


class RunError(unittest.TestCase):
    def test_each_answer(self):
        good = (EMPTY, (("put", "a"), ("undo",), ("redo",), ("take", None)))
        self.assertIsNone(run_error(good))
        self.assertIsNone(run_error((EMPTY, ())))
        for value in (EMPTY, (EMPTY,), good + ((),), list(good), None, (), {}):
            self.assertEqual(run_error(value), ("run", None))
        self.assertEqual(run_error((None, None)), ("plan", ("plan", None)))
        self.assertEqual(run_error((EMPTY[:4] + (("b", "a"),), None)), ("plan", ("sorted", 0)))
        self.assertEqual(run_error(((None,) + EMPTY[1:], good[1])), ("plan", ("kind", "machine")))
        for entries in (None, [], [("undo",)], {}, "undo", 0, (("undo",),) * 121, (None,) * 121):
            self.assertEqual(run_error((EMPTY, entries)), ("entries", None))
        self.assertIsNone(run_error((EMPTY, (("undo",),) * 120)))
        for entry in (None, "undo", ["undo"], (), ("undo", None), ("undo", ()), ("redo", 0), ("put",), ("put", "a", "a"),
                      ("Undo",), ("attempt", ()), ("find", ("is", "a")), (0,), (None,), (("undo",),), ({}, 1), ([], []), ("",)):
            self.assertEqual(run_error((EMPTY, (("undo",), ("put", None), entry, None))), ("entry", 2), entry)

    def test_any_values(self):
        chance = random.Random(2201)
        seen = set()
        for _ in range(1500):
            value = changed(chance, some_run(chance, chance.randint(0, 4)))
            kept_value = copy.deepcopy(value)
            found = run_error(value)
            self.assertEqual(repr(found), repr(naive_run_error(value)), value)
            self.assertEqual(repr(value), repr(kept_value))
            seen.add(found and found[0])
        self.assertEqual(seen, {None, "run", "plan", "entries", "entry"})
        for value in ODD_VALUES:
            self.assertEqual(run_error(value), naive_run_error(value))
            self.assertEqual(run_error((EMPTY, value)), naive_run_error((EMPTY, value)))
            self.assertEqual(run_error((EMPTY, (value,))), naive_run_error((EMPTY, (value,))))


class Replayed(unittest.TestCase):
    def test_beside_a_shelf(self):
        chance = random.Random(2202)
        seen = set()
        for _ in range(250):
            run = some_run(chance, chance.choice((0, 3, 10, 40)))
            held = copy.deepcopy(run)
            shelf, told = on_a_shelf(run)
            self.assertEqual(replayed(run), (shelf.plan, told))
            self.assertEqual(kept(run), shelf.edits())
            self.assertEqual(run, held)
            self.assertEqual(replayed((run[0], kept(run)))[0], shelf.plan)
            seen.update(one for one in told if isinstance(one, str))
        self.assertLessEqual({"BadWord", "Outside", "Full", "NoWord", "BadQuery", "BadLine", "BadComp", "Faulty", "BadRoom",
                              "NothingToUndo", "NothingToRedo"}, seen)

    def test_more_than_eighty_edits(self):
        run = (EMPTY, (("widen", None),) * 100 + (("put", "a"),) * 20)
        self.assertEqual(replayed(run), (EMPTY[:4] + (("a",) * 20,), tuple(range(1, 121))))
        self.assertEqual(kept(run), run[1])
        run = (EMPTY, (("put", "a"),) * 62 + (("undo",),) * 3 + (("redo",),) * 2)
        self.assertEqual(replayed(run), (EMPTY[:4] + (("a",) * 59,), tuple(range(1, 61)) + ("Crowded",) * 2
                                         + (59, 58, 57, 58, 59)))

    def test_entries_with_any_values(self):
        for value in ODD_VALUES:
            for name in NAMES:
                run = (EMPTY, ((name, value), ("undo",), ("redo",), (name, value)))
                shelf, told = on_a_shelf(run)
                self.assertEqual((replayed(run), kept(run)), ((shelf.plan, told), shelf.edits()))

    def test_what_is_put_back(self):
        run = (EMPTY, (("put", "a"), ("put", "b"), ("undo",), ("undo",), ("put", "c"), ("redo",), ("take", 1), ("redo",),
                       ("undo",), ("put", "ab"), ("redo",)))
        self.assertEqual(replayed(run)[1], (1, 2, 1, 0, "BadWord", 1, "NoWord", 2, 1, 2, "NothingToRedo"))
        self.assertEqual(kept(run), (("put", "a"), ("put", "ab")))
        self.assertEqual(replayed(run=run)[0][4], ("a", "ab"))

    def test_great_sizes(self):
        chance = random.Random(2203)
        kind = wheel(6, ((1, 1), (1, 2), (5, 1)), (0, 2, 3))
        orders = [sums(3, 7, (1, 2, 4)), sums(3, 7, (2, 1, 5))]
        plan = (kind, orders[0], (), None, ())
        entries = tuple(chance.choice((("reorder", chance.choice(orders)), ("put", random_word(chance, 3, 200)), ("undo",),
                                       ("redo",), ("weed", ("has", "abca")))) for _ in range(120))
        self.assertIsNone(timed(run_error, (plan, entries)))
        self.assertEqual(len(timed(replayed, (plan, entries))[1]), 120)
        self.assertIsInstance(timed(kept, (plan, entries)), tuple)


class Copies(unittest.TestCase):
    def naive_joined(self, base, one, other):
        numbers = Counter(base)
        for word in set(one) | set(other) | set(base):
            numbers[word] = max(0, base.count(word) + (one.count(word) - base.count(word)) + (other.count(word) - base.count(word)))
        return tuple(sorted(numbers.elements(), key=lambda word: (len(word), word)))

    def test_against_counts(self):
        chance = random.Random(2301)
        for _ in range(600):
            few = [random_word(chance, 3, chance.randint(0, 2)) for _ in range(5)]
            base, one, other = [tuple(chance.choice(few) for _ in range(chance.randint(0, 8))) for _ in range(3)]
            found = joined(base, one, other)
            self.assertEqual(found, self.naive_joined(base, one, other))
            self.assertEqual(joined(base, other, one), found)
            self.assertEqual(joined(base, base, one), tuple(sorted(one, key=lambda word: (len(word), word))))
            self.assertEqual(joined(base, one, base), joined(base, base, one))
            first, second = Counter(base), Counter(one)
            self.assertEqual(fewest_runs(base, one), sum(((first - second) + (second - first)).values()))
            self.assertEqual(fewest_runs(one, base), fewest_runs(base, one))
            self.assertEqual(fewest_runs(base, base[::-1]), 0)

    def test_some(self):
        self.assertEqual(joined((), (), ()), ())
        self.assertEqual(joined(("b",), ("b", "a"), ("b", "a")), ("a", "a", "b"))
        self.assertEqual(joined(("a", "a"), ("a",), ("a",)), ())
        self.assertEqual(joined(("a", "a", "a"), (), ("a", "a", "a", "a")), ("a",))
        self.assertEqual(joined(base=("a",), one=(), other=()), ())
        self.assertEqual(joined((), ("b", "aa", ""), ("a", "c")), ("", "a", "b", "c", "aa"))
        self.assertEqual(fewest_runs(base=("a", "a"), goal=("a", "b", "b")), 3)
        self.assertEqual(fewest_runs((), ()), 0)

    def test_more_words_than_a_shelf_has(self):
        one, other = ("a" * 200,) * 60, ("b",) * 60
        self.assertEqual(joined((), one, other), ("b",) * 60 + one)
        self.assertEqual(joined((), one, one), one + one)
        self.assertEqual(fewest_runs(one, other), 120)


if __name__ == "__main__":
    unittest.main()
