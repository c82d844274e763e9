"""SureShelf (point 21)."""

import random
import unittest

from sortedshelves.comps import by_length, by_ranks, then, turned
from sortedshelves.errors import ShelfError, Unsure
from sortedshelves.lines import leaves, loses, unsorts
from sortedshelves.shelves import Shelf, SureShelf
from tests.naive import all_words, sums
from tests.reference import random_line, timed, wheel
from tests.shelfmodel import look, outcome, to_come, unsure
from tests.shelfplans import good_plan, some_order

EVERY = all_words(2)
PLAIN = by_ranks(2, (0, 1))
CONTRARY = by_ranks(2, (1, 0))
SHORT = by_length(2)
TURN = ("pass", ((0, 0),), (("b", "a"),))
FOLD = ("pass", ((0, 0),), (("b", "b"),))
NO_B_TWICE = (2, ((0, 1), (0, None)), (True, True))


class Made(unittest.TestCase):
    def test_the_first_reason_and_its_evidence(self):
        for kind, comp, line, reason, evidence in (
                (NO_B_TWICE, SHORT, (FOLD,), "leaves", "aa"), (EVERY, SHORT, (FOLD,), "loses", ("a", "b")),
                (EVERY, PLAIN, (TURN,), "unsorts", ("a", "b")), (EVERY, SHORT, (("stop", "b"),), "loses", ("", "b")),
                (NO_B_TWICE, PLAIN, (TURN,), "leaves", "aa")):
            self.assertEqual(outcome(SureShelf, (kind, comp, line, None, ())), ("raises", "Unsure", reason, evidence))
            self.assertEqual(len(Shelf((kind, comp, line, None, ()))), 0)
        self.assertEqual(len(SureShelf((EVERY, SHORT, (TURN,), None, ("a",)))), 1)

    def test_bad_plans_ahead(self):
        for plan, error in (((EVERY, PLAIN, (TURN,), None, ("b", "a")), ("sorted", 0)),
                            ((EVERY, (2, ((0,) * 8,), (1,)), (TURN,), None, ()), ("order", "")),
                            ((EVERY, PLAIN, (FOLD,), ((1, 1), 0), ("a",)), ("room", "full")), (None, ("plan", None))):
            self.assertEqual(outcome(SureShelf, plan), ("raises", "BadPlan", error))

    def test_any_plans(self):
        chance = random.Random(2101)
        told = {}
        for _ in range(500):
            plan = good_plan(chance)
            found = outcome(SureShelf, plan)
            wanted = unsure(plan)
            if wanted is None:
                self.assertEqual(found.plan, plan)
            else:
                self.assertEqual(found, ("raises", "Unsure", *wanted))
            told[wanted and wanted[0]] = told.get(wanted and wanted[0], 0) + 1
        self.assertTrue(all(told[name] > 5 for name in (None, "leaves", "loses", "unsorts")), told)

    def test_a_subclass_of_shelf(self):
        sure = SureShelf(plan=(EVERY, SHORT, (TURN,), None, ()))
        self.assertTrue(isinstance(sure, Shelf) and issubclass(SureShelf, Shelf))
        self.assertTrue(issubclass(Unsure, ShelfError))
        self.assertFalse(isinstance(Shelf((EVERY, SHORT, (TURN,), None, ())), SureShelf))


class Edits(unittest.TestCase):
    def setUp(self):
        self.shelf = SureShelf((EVERY, SHORT, (TURN,), None, ()))
        self.shelf.put("ab")
        self.shelf.put("b")
        self.shelf.undo()

    def refuses(self, call, value, *error):
        before, coming = look(self.shelf), to_come(self.shelf)
        self.assertEqual(outcome(call, value), ("raises", *error))
        self.assertEqual((look(self.shelf), to_come(self.shelf)), (before, coming))

    def test_lay(self):
        self.refuses(self.shelf.lay, (FOLD,), "Unsure", "loses", ("a", "b"))
        self.refuses(self.shelf.lay, (("cut", (1, 1), 3),), "Unsure", "loses", ("aaa", "aaaa"))
        self.refuses(self.shelf.lay, None, "BadLine", (None, "line"))
        self.refuses(self.shelf.lay, (FOLD, None), "BadLine", (1, "step"))
        self.assertEqual([self.shelf.lay(()), self.shelf.reorder(PLAIN)], [2, 3])
        self.refuses(self.shelf.lay, (TURN,), "Unsure", "unsorts", ("a", "b"))
        self.assertEqual(self.shelf.lay((TURN, TURN)), 4)

    def test_reorder(self):
        self.refuses(self.shelf.reorder, PLAIN, "Unsure", "unsorts", ("a", "b"))
        self.refuses(self.shelf.reorder, then(SHORT, PLAIN), "Unsure", "unsorts", ("a", "b"))
        self.refuses(self.shelf.reorder, None, "BadComp", "comp")
        self.refuses(self.shelf.reorder, by_length(1), "BadComp", "letters")
        self.refuses(self.shelf.reorder, (2, PLAIN[1], (0, -1, -1)), "Faulty", ("", "a"))
        self.assertEqual([self.shelf.reorder(turned(SHORT)), self.shelf.reorder(SHORT)], [2, 3])

    def test_too_many_edits_ahead(self):
        for _ in range(79):
            self.shelf.widen(None)
        self.refuses(self.shelf.lay, (FOLD,), "TooManyEdits")
        self.refuses(self.shelf.reorder, PLAIN, "TooManyEdits")
        self.refuses(self.shelf.attempt, [("lay", (FOLD,))], "TooManyEdits")

    def test_other_edits(self):
        self.assertEqual([self.shelf.take(0), self.shelf.weed(("all", ())), self.shelf.widen(((1, 1), 5)), self.shelf.put("a")],
                         [2, 3, 4, 5])
        self.assertEqual(self.shelf.plan[4], ("b",))


class Attempts(unittest.TestCase):
    def setUp(self):
        self.shelf = SureShelf((EVERY, SHORT, (TURN,), None, ("a",)))
        self.shelf.put("ab")
        self.shelf.put("b")
        self.shelf.undo()

    def refuses(self, items, *error, **named):
        before, coming = look(self.shelf), to_come(self.shelf)
        self.assertEqual(outcome(self.shelf.attempt, items, **named), ("raises", *error))
        self.assertEqual((look(self.shelf), to_come(self.shelf)), (before, coming))

    def test_only_what_stands_in_the_end_is_asked(self):
        self.assertEqual(self.shelf.attempt([("lay", (FOLD,)), ("put", "ba"), ("lay", (TURN,))]), 3)
        self.assertEqual(self.shelf.attempt([("reorder", PLAIN), ("lay", ())]), 2)
        self.assertEqual(self.shelf.plan, (EVERY, PLAIN, (), None, ("a", "ba", "bb")))

    def test_unsure_in_the_end(self):
        self.refuses([("reorder", PLAIN)], "Unsure", "unsorts", ("a", "b"))
        self.refuses([("put", "a"), ("lay", (FOLD,))], "Unsure", "loses", ("a", "b"))
        self.refuses([("lay", ()), ("reorder", PLAIN), ("lay", (TURN,))], "Unsure", "unsorts", ("a", "b"))
        # Items that are refused come ahead of it.
        self.refuses([("lay", (FOLD,)), ("take", 9)], "Rejected", 1)
        self.refuses([("lay", (FOLD,)), ("reorder", None)], "Rejected", 1)

    def test_where_a_watch_ended_it(self):
        seen = []

        def watch(held):
            seen.append((held.plan[2], held.age(), len(held)))
            return len(seen) == 2

        self.refuses([("put", "a"), ("lay", (FOLD,)), ("lay", ())], "Unsure", "loses", ("a", "b"), watch=watch)
        self.assertEqual(seen, [((TURN,), 2, 3), ((FOLD,), 2, 3)])
        seen.clear()
        self.assertEqual(self.shelf.attempt([("lay", (FOLD,)), ("lay", ()), ("lay", (FOLD,))], watch=watch), 2)
        self.assertEqual((self.shelf.plan[2], self.shelf.age()), ((), 2))

    def test_watches_that_raise_come_ahead(self):
        def watch(held):
            raise KeyError(held.plan[2])

        before, coming = look(self.shelf), to_come(self.shelf)
        with self.assertRaises(KeyError):
            self.shelf.attempt([("lay", (FOLD,))], watch=watch)
        self.assertEqual((look(self.shelf), to_come(self.shelf)), (before, coming))

    def test_undo_and_redo_never_raise_it(self):
        self.shelf.attempt([("lay", (FOLD,)), ("put", "b"), ("lay", ())])
        self.shelf.reorder(PLAIN)
        ages = [self.shelf.undo(), self.shelf.undo(), self.shelf.undo(), self.shelf.redo(), self.shelf.redo(), self.shelf.redo()]
        self.assertEqual(ages, [2, 1, 0, 1, 2, 3])
        for version in range(4):
            self.assertIsNone(unsure(self.shelf.plan_at(version=version)))

    def test_any_edits(self):
        chance = random.Random(2102)
        tried = 0
        for _ in range(60):
            plan = good_plan(chance)
            shelf = SureShelf(plan[:2] + ((),) + plan[3:])
            for _ in range(6):
                items = [("lay", random_line(chance, plan[0][0])), ("reorder", some_order(chance, plan[0]))]
                chance.shuffle(items)
                outcome(shelf.attempt, items[:chance.randint(1, 2)])
                outcome(shelf.lay, random_line(chance, plan[0][0]))
            kind = plan[0]
            for version in range(shelf.age() + 1):
                _, comp, line = shelf.plan_at(version=version)[:3]
                self.assertEqual((leaves(kind, line, kind), loses(kind, line), unsorts(kind, comp, line)), (None,) * 3)
            tried += shelf.age()
        self.assertGreater(tried, 50)


class Great(unittest.TestCase):
    def test_great_sizes(self):
        chance = random.Random(2103)
        kind, comp = wheel(6, ((1, 1), (1, 2), (5, 1)), range(6)), sums(3, 7, (1, 2, 4))
        turn = ("pass", ((1, 1, 1), (2, 2, 2), (3, 3, 3), (0, 0, 0)), (("a", "b", "c"),) * 4)
        shelf = timed(SureShelf, (kind, comp, (turn,) * 3, None, ()))
        self.assertEqual(shelf.age(), 0)
        for _ in range(8):
            timed(shelf.lay, random_line(chance, 3))
        self.assertEqual(timed(shelf.attempt, [("lay", (turn,) * 2)] * 20), 20)


if __name__ == "__main__":
    unittest.main()
