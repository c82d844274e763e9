"""attempt and watches (point 19)."""

import copy
import random
import unittest

from sortedshelves.comps import by_length, by_ranks
from sortedshelves.consoles import Console
from sortedshelves.errors import Busy, Rejected
from sortedshelves.shelves import Shelf, SureShelf
from tests.naive import all_words
from tests.reference import changed
from tests.shelfmodel import look, outcome, to_come
from tests.shelfplans import ODD_VALUES, some_item

EVERY = all_words(2)
PLAIN = by_ranks(2, (0, 1))
SHORT = by_length(2)
EMPTY = (EVERY, PLAIN, (), None, ())
FOLD = ("pass", ((0, 0),), (("b", "b"),))


class Wrong(Exception):
    """Raised by watches."""


class Truth:
    """A result that tells how often it is asked whether it is true."""

    def __init__(self, value, asked, action=None):
        self.value, self.asked, self.action = value, asked, action

    def __bool__(self):
        self.asked.append(self.value)
        if self.action is not None:
            self.action()
        return self.value


def shelf_with_past():
    """A shelf with two edits that stand and two that were removed."""
    shelf = Shelf((EVERY, PLAIN, (), None, ("a",)))
    for word in ("b", "ab", "bb", "ba"):
        shelf.put(word)
    shelf.undo()
    shelf.undo()
    return shelf


class Attempts(unittest.TestCase):
    def test_lists_and_tuples(self):
        for items in ([("put", "b"), ("put", "a")], (("put", "b"), ("put", "a"))):
            shelf = Shelf(EMPTY)
            self.assertEqual([shelf.attempt(items), shelf.plan[4], shelf.age()], [2, ("a", "b"), 1])
            self.assertEqual(shelf.edits(), (("attempt", (("put", "b"), ("put", "a"))),))
            self.assertIsInstance(shelf.edits()[0][1], tuple)
            self.assertEqual(shelf.attempt(edits=items, watch=None), 2)

    def test_all_edits(self):
        shelf = Shelf((EVERY, PLAIN, (), None, ("a", "b")))
        items = [("lay", (FOLD,)), ("put", "aa"), ("reorder", SHORT), ("take", 0), ("weed", ("is", "b")), ("widen", ((1, 1), 2))]
        self.assertEqual(shelf.attempt(items), 6)
        self.assertEqual(shelf.plan, (EVERY, SHORT, (FOLD,), ((1, 1), 2), ("bb",)))
        self.assertEqual([shelf.age(), shelf.undo(), shelf.plan], [1, 0, (EVERY, PLAIN, (), None, ("a", "b"))])
        self.assertEqual([shelf.redo(), shelf.plan[4]], [1, ("bb",)])

    def test_twenty_items_and_one_more(self):
        shelf = Shelf(EMPTY)
        self.assertEqual([shelf.attempt([("put", "a")] * 20), shelf.age(), len(shelf)], [20, 1, 20])
        self.assertEqual(outcome(shelf.attempt, [("put", "a")] * 21), ("raises", "BadEdits"))
        self.assertEqual(outcome(shelf.attempt, [None] * 21), ("raises", "BadEdits"))
        self.assertEqual(outcome(shelf.attempt, [None] * 20), ("raises", "BadEdit", 0))

    def test_no_items(self):
        shelf = shelf_with_past()
        before, coming = look(shelf), to_come(shelf)
        for items in ([], ()):
            self.assertEqual(shelf.attempt(items, watch=lambda held: self.fail()), 0)
        self.assertEqual((look(shelf), to_come(shelf)), (before, coming))

    def test_values_that_are_no_items(self):
        shelf = shelf_with_past()
        before, coming = look(shelf), to_come(shelf)
        for value in ODD_VALUES:
            if not isinstance(value, (list, tuple)):
                self.assertEqual(outcome(shelf.attempt, value), ("raises", "BadEdits"))
        good = ("put", "a")
        for item in (None, 0, "put", (), ("put",), ("put", "a", "b"), ["put", "a"], ("undo",), ("redo", None), ("attempt", ()),
                     ("Put", "a"), ("put ", "a"), (0, "a"), (None, None), ({}, "a"), ([], "a"), (("put",), "a"), {"put": "a"},
                     ("find", ("is", "a")), ("undo", None)):
            self.assertEqual(outcome(shelf.attempt, [good, good, item, item]), ("raises", "BadEdit", 2), item)
            self.assertEqual(outcome(shelf.attempt, (item,), watch=lambda held: self.fail()), ("raises", "BadEdit", 0))
        self.assertEqual((look(shelf), to_come(shelf)), (before, coming))

    def test_an_item_refused_in_the_middle(self):
        shelf = shelf_with_past()
        before, coming = look(shelf), to_come(shelf)
        for name in ("put", "take", "weed", "lay", "reorder", "widen"):
            for at in range(3):
                items = [("put", "a"), ("put", "b")]
                items.insert(at, (name, {"a": []}))
                self.assertEqual(outcome(shelf.attempt, items), ("raises", "Rejected", at))
                self.assertEqual((look(shelf), to_come(shelf)), (before, coming))
        self.assertEqual(outcome(shelf.attempt, [("put", "a"), ("take", 4)]), ("raises", "Rejected", 1))
        self.assertEqual(outcome(shelf.attempt, [("take", 0), ("take", 2)]), ("raises", "Rejected", 1))
        self.assertEqual(outcome(shelf.attempt, [("widen", ((1, 1), 5)), ("put", "a"), ("put", "a")]), ("raises", "Rejected", 2))
        self.assertEqual((look(shelf), to_come(shelf)), (before, coming))

    def test_undone_and_redone_as_a_whole(self):
        shelf = shelf_with_past()
        plan = shelf.plan
        self.assertEqual(shelf.attempt([("put", "bb"), ("take", 0), ("put", "aa")]), 3)
        self.assertEqual((shelf.age(), to_come(shelf)), (3, ()))
        after = look(shelf)
        self.assertEqual([shelf.undo(), shelf.plan, shelf.redo()], [2, plan, 3])
        self.assertEqual(look(shelf), after)
        self.assertEqual([shelf.plan_at(version=2), shelf.plan_at(version=3)], [plan, shelf.plan])

    def test_eighty_edits(self):
        shelf = Shelf(EMPTY)
        for _ in range(79):
            shelf.widen(None)
        self.assertEqual([shelf.attempt([("put", "a")] * 15), shelf.age(), len(shelf)], [15, 80, 15])
        self.assertEqual(outcome(shelf.attempt, [("put", "a")]), ("raises", "TooManyEdits"))
        self.assertEqual(shelf.attempt([]), 0)
        self.assertEqual(outcome(shelf.attempt, [("push", "a")]), ("raises", "BadEdit", 0))
        self.assertEqual(outcome(shelf.attempt, None), ("raises", "BadEdits"))
        shelf.undo()
        # The items count once, so that twenty of them may be done.
        self.assertEqual([shelf.attempt([("put", "a")] * 20), shelf.age()], [20, 80])

    def test_any_items(self):
        chance = random.Random(1901)
        seen = set()
        for _ in range(600):
            shelf = shelf_with_past()
            before, coming = look(shelf), to_come(shelf)
            items = changed(chance, tuple(some_item(chance, shelf.plan) for _ in range(4)))
            kept = copy.deepcopy(items)
            found = outcome(shelf.attempt, items)
            self.assertEqual(repr(items), repr(kept))
            if isinstance(found, tuple):
                self.assertEqual((look(shelf), to_come(shelf)), (before, coming))
                seen.add(found[1])
            else:
                self.assertEqual(found, len(items))
                self.assertEqual(to_come(shelf), () if items else coming)
        self.assertEqual(seen, {"BadEdits", "BadEdit", "Rejected"})


class Watches(unittest.TestCase):
    def test_each_item_is_shown(self):
        shelf, seen = shelf_with_past(), []
        ahead = look(shelf)

        def watch(held):
            self.assertIs(held, shelf)
            seen.append((held.age(), held.edits()[2:], held.plan[4], len(held), str(held), held.plan_at(version=2),
                         held.plan_at(), held.plan_at(version=3), outcome(held.plan_at, version=4)))
            return None

        items = (("put", "aa"), ("take", 0), ("widen", None))
        self.assertEqual(shelf.attempt(items, watch=watch), 3)
        self.assertEqual(len(seen), 3)
        for at, words in enumerate((("a", "aa", "ab", "b"), ("aa", "ab", "b"), ("aa", "ab", "b"))):
            plan = ahead[0][:4] + (words,)
            self.assertEqual(seen[at], (3, (("attempt", items[:at + 1]),), words, len(words), f"{len(words)} words, 3 edits",
                                        ahead[0], plan, plan, ("raises", "NoVersion", 4)))

    def test_watches_that_end_it(self):
        for ending in range(1, 5):
            for true, false in ((True, False), (1, 0), ("x", ""), ((0,), ()), (shelf_with_past(), Shelf(EMPTY)), (self, None)):
                shelf, calls = shelf_with_past(), []

                def watch(held):
                    calls.append(held)
                    return true if len(calls) == ending else false

                many = shelf.attempt([("put", "aa"), ("put", "bb"), ("put", "a")], watch=watch)
                self.assertEqual((many, len(calls)), (min(ending, 3), min(ending, 3)))
                self.assertEqual(shelf.edits()[2:], (("attempt", (("put", "aa"), ("put", "bb"), ("put", "a"))[:many]),))
                self.assertEqual((len(shelf), to_come(shelf)), (3 + many, ()))
                # The items that were done are put back without the watch.
                self.assertEqual([shelf.undo(), shelf.redo(), len(calls)], [2, 3, many])
                self.assertEqual(len(shelf), 3 + many)

    def test_items_behind_the_end_are_not_asked(self):
        shelf = Shelf(EMPTY)
        self.assertEqual(shelf.attempt([("put", "a"), ("put", None)], watch=lambda held: True), 1)
        self.assertEqual(outcome(shelf.attempt, [("put", "a"), ("put", None)], watch=lambda held: False),
                         ("raises", "Rejected", 1))
        # But whether they are items is asked ahead.
        self.assertEqual(outcome(shelf.attempt, [("put", "a"), None], watch=lambda held: True), ("raises", "BadEdit", 1))

    def test_truth_is_asked_once_after_each_item(self):
        shelf, asked = Shelf(EMPTY), []
        self.assertEqual(shelf.attempt([("put", "a")] * 4, watch=lambda held: Truth(len(held) == 3, asked)), 3)
        self.assertEqual(asked, [False, False, True])
        self.assertEqual(shelf.attempt([("put", "a")] * 2, watch=lambda held: Truth(False, asked)), 2)
        self.assertEqual(asked[3:], [False, False])

    def test_watches_that_raise(self):
        for ending in (1, 2, 3):
            for error in (Wrong, ValueError, KeyError, Busy, Rejected, StopIteration, Exception):
                shelf, calls = shelf_with_past(), []
                before, coming = look(shelf), to_come(shelf)
                wrong = error(7) if error is Rejected else error()

                def watch(held):
                    calls.append(held)
                    if len(calls) == ending:
                        raise wrong

                with self.assertRaises(error) as caught:
                    shelf.attempt([("put", "aa"), ("reorder", SHORT), ("put", "a")], watch=watch)
                self.assertIs(caught.exception, wrong)
                self.assertEqual((look(shelf), to_come(shelf)), (before, coming))
                self.assertEqual(shelf.put("a"), 3)

    def test_results_that_raise_when_they_are_asked(self):
        for ending in (0, 1, 2):
            shelf, asked, calls = shelf_with_past(), [], []
            before, coming = look(shelf), to_come(shelf)

            def wrong():
                if len(asked) > ending:
                    raise Wrong()

            def watch(held):
                calls.append(held.age())
                return Truth(False, asked, wrong)

            with self.assertRaises(Wrong):
                shelf.attempt([("put", "aa"), ("put", "bb"), ("put", "a")], watch=watch)
            self.assertEqual((look(shelf), to_come(shelf), len(calls)), (before, coming, ending + 1))
            self.assertEqual(shelf.attempt([("put", "a")]), 1)

    def busy_calls(self, shelf):
        return [
            outcome(shelf.put, "a"), outcome(shelf.put, None), outcome(shelf.take, 0), outcome(shelf.take, None),
            outcome(shelf.weed, ("is", "a")), outcome(shelf.weed, 0), outcome(shelf.lay, ()), outcome(shelf.lay, 0),
            outcome(shelf.reorder, SHORT), outcome(shelf.reorder, 0), outcome(shelf.widen, None), outcome(shelf.widen, 0),
            outcome(shelf.undo), outcome(shelf.redo), outcome(shelf.attempt, []), outcome(shelf.attempt, None),
            outcome(shelf.attempt, [("put", "a")]), outcome(shelf.attempt, [None]), outcome(shelf.__iadd__, "a"),
            outcome(shelf.__isub__, 0),
        ]

    def test_watches_that_edit(self):
        for make in (Shelf, SureShelf):
            shelf, told, asked = make(EMPTY), [], []
            shelf.put("b")
            shelf.put("a")
            shelf.undo()

            def watch(held):
                told.append(self.busy_calls(held))
                return Truth(False, asked, lambda: told.append(self.busy_calls(held)))

            self.assertEqual(shelf.attempt([("put", "a"), ("put", "bb")], watch=watch), 2)
            self.assertEqual(told, [[("raises", "Busy")] * 20] * 4)
            self.assertEqual((shelf.plan[4], shelf.age()), (("a", "b", "bb"), 2))
            self.assertEqual([shelf.put("a"), shelf.undo(), shelf.undo(), shelf.redo()], [3, 2, 1, 2])

    def test_busy_goes_through(self):
        shelf = shelf_with_past()
        before, coming = look(shelf), to_come(shelf)
        with self.assertRaises(Busy):
            shelf.attempt([("put", "a")], watch=lambda held: held.undo())
        self.assertEqual((look(shelf), to_come(shelf)), (before, coming))

    def test_busy_ahead_of_too_many_edits(self):
        shelf, told = Shelf(EMPTY), []
        for _ in range(79):
            shelf.widen(None)
        shelf.attempt([("put", "a")], watch=lambda held: told.extend(self.busy_calls(held)))
        self.assertEqual((told, shelf.age()), ([("raises", "Busy")] * 20, 80))

    def test_queries_while_a_watch_runs(self):
        shelf, told = Shelf((EVERY, PLAIN, (), None, ("a", "b"))), []

        def ask(held):
            return (held.find(("above", "a")), held.places("aa"), held.page(1, 5), held.moves(SHORT), held[1], len(held),
                    held == Shelf(held.plan), held != Shelf(EMPTY), bool(held), outcome(held.find, 0),
                    outcome(held.places, "c"), outcome(held.page, 0, -1), outcome(held.moves, 0), held.MOST_EDITS)

        def watch(held):
            told.append(ask(held))
            return Truth(False, [], lambda: told.append(ask(held)))

        shelf.attempt([("put", "ab")], watch=watch)
        self.assertEqual(told, [ask(shelf)] * 2)
        self.assertEqual(told[0][:6], ((1, 2), (1, 1), ("ab", "b"), 1, "ab", 3))

    def test_other_shelves_and_consoles(self):
        shelf, other, told = Shelf(EMPTY), Shelf(EMPTY), []
        console = Console(shelf)

        def watch(held):
            other.attempt([("put", "a")], watch=lambda inner: told.append(outcome(held.put, "b")))
            told.append((other.put("b"), console.execute("put a"), console.execute("undo"), console.execute("count")))

        self.assertEqual(shelf.attempt([("put", "a")], watch=watch), 1)
        self.assertEqual(told, [("raises", "Busy"), (2, "error Busy", "error Busy", "1 1")])
        self.assertEqual((len(other), len(shelf), console.execute("undo")), (2, 1, "ok 0"))

    def test_changes_to_the_items_while_they_are_done(self):
        shelf, items = Shelf(EMPTY), [("put", "a"), ("put", "b"), ("put", "ab")]

        def watch(_):
            items.append(("put", "bb"))
            items[1] = ("put", None)

        self.assertEqual(shelf.attempt(items, watch=watch), 3)
        self.assertEqual(shelf.plan[4], ("a", "ab", "b"))


if __name__ == "__main__":
    unittest.main()
