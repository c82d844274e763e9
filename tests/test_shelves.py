"""Shelf: its edits, undo and redo (point 18)."""

import copy
import random
import unittest

from sortedshelves.bounds import MAX_EDITS
from sortedshelves.comps import by_length, by_ranks, tells, then, turned
from sortedshelves.edits import sorted_by
from sortedshelves.errors import BadPlan, NoWord, ShelfError
from sortedshelves.shelves import Shelf, SureShelf
from sortedshelves.steps import image
from sortedshelves.texts import plan_error
from tests.naive import all_words, random_query, sums
from tests.reference import changed, holds, random_line, random_word, timed, wheel
from tests.shelfmodel import Model, look, outcome, to_come, unsure
from tests.shelfplans import ODD_VALUES, good_plan, is_sorted, plain_orders, some_item, some_value

EVERY = all_words(2)
PLAIN = by_ranks(2, (0, 1))
FOLD = ("pass", ((0, 0),), (("b", "b"),))
EMPTY = (EVERY, PLAIN, (), None, ())


def watch_for(many):
    """A watch that tells to end when it is called for so many times."""
    calls = []

    def watch(shelf):
        calls.append(shelf.age())
        return len(calls) == many

    return watch


class AgainstTheModel(unittest.TestCase):
    """Shelves beside plain ones, entry by entry."""

    def step(self, chance, model, shelf, plan):
        way = chance.randrange(10)
        if way < 6:
            name, value = some_item(chance, plan)
            return outcome(model.edit, name, value), outcome(getattr(shelf, name), value)
        if way < 8:
            return outcome(model.undo), outcome(shelf.undo)
        if way < 9:
            return outcome(model.redo), outcome(shelf.redo)
        items = tuple(some_item(chance, plan) for _ in range(chance.randint(0, 5)))
        if chance.random() < 0.2:
            items = changed(chance, items)
        elif chance.random() < 0.5:
            items = list(items)
        ending = chance.choice((None, None, 1, 2, 3))
        watch = None if ending is None else watch_for(ending)
        return outcome(model.attempt, items, ending), outcome(shelf.attempt, items, watch=watch)

    def follow(self, chance, plan, sure, steps):
        model, shelf = Model(plan, sure), (SureShelf if sure else Shelf)(plan)
        seen = set()
        for _ in range(steps):
            wanted, found = self.step(chance, model, shelf, plan)
            self.assertEqual(repr(found), repr(wanted), plan)
            seen.add(found[1] if isinstance(found, tuple) else "ok")
            self.assertEqual(repr(shelf.plan), repr(model.plan()))
            self.assertEqual((shelf.age(), shelf.edits()), (model.age(), tuple(model.stood)))
            self.assertEqual((str(shelf), len(shelf)), (model.text(), len(model.plan()[4])))
            self.assertEqual(to_come(shelf), tuple(model.removed[::-1]))
        self.assertIsNone(plan_error(shelf.plan))
        for version in range(shelf.age() + 1):
            self.assertEqual(shelf.plan_at(version=version), model.plan_at(version))
            self.assertTrue(is_sorted(shelf.plan_at(version=version)[1], shelf.plan_at(version=version)[4]))
        self.done_again(shelf, plan, sure)
        return seen

    def done_again(self, shelf, plan, sure):
        """A new shelf on which the items of edits() are done is as this one."""
        again = (SureShelf if sure else Shelf)(plan)
        for name, value in shelf.edits():
            again.attempt(value) if name == "attempt" else getattr(again, name)(value)
        self.assertEqual(look(again), look(shelf))
        self.assertEqual(again, shelf)

    def test_shelves(self):
        chance = random.Random(1801)
        seen = set()
        for _ in range(120):
            seen |= self.follow(chance, good_plan(chance), False, chance.choice((5, 15, 40)))
        self.assertLessEqual({
            "ok", "BadWord", "Outside", "Full", "NoWord", "BadQuery", "BadLine", "BadComp", "BadRoom", "Faulty", "Rejected",
            "BadEdits", "BadEdit", "NothingToUndo", "NothingToRedo",
        }, seen)

    def test_sure_shelves(self):
        chance = random.Random(1802)
        seen = set()
        for _ in range(60):
            plan = good_plan(chance)
            seen |= self.follow(chance, plan[:2] + ((),) + plan[3:] if unsure(plan) else plan, True, 20)
        self.assertLessEqual({"ok", "Unsure", "Rejected"}, seen)

    def test_more_than_eighty_edits(self):
        chance = random.Random(1803)
        for _ in range(3):
            plan = EMPTY
            model, shelf = Model(plan), Shelf(plan)
            for _ in range(200):
                name, value = some_item(chance, plan)
                self.assertEqual(outcome(getattr(shelf, name), value), outcome(model.edit, name, value))
            self.assertEqual(look(shelf)[:3], (model.plan(), 80, tuple(model.stood)))


class Made(unittest.TestCase):
    def test_plans_that_are_not_good(self):
        chance = random.Random(1804)
        for value in list(ODD_VALUES) + [changed(chance, good_plan(chance)) for _ in range(300)]:
            error = plan_error(value)
            if error is None:
                self.assertEqual(Shelf(value).plan, value)
                continue
            with self.assertRaises(BadPlan) as caught:
                Shelf(value)
            self.assertEqual(caught.exception.error, error)
            self.assertEqual(outcome(SureShelf, value), ("raises", "BadPlan", error))

    def test_attributes(self):
        shelf = Shelf(EMPTY)
        self.assertEqual((shelf.plan, shelf.MOST_EDITS, Shelf.MOST_EDITS, SureShelf.MOST_EDITS), (EMPTY, 80, 80, 80))
        self.assertEqual(MAX_EDITS, Shelf.MOST_EDITS)
        self.assertIn("plan", vars(shelf))

    def test_shelves_do_not_hang_on_each_other(self):
        one, other = Shelf(EMPTY), Shelf(EMPTY)
        one.put("a")
        self.assertEqual((look(other)[:3], other.put("b")), ((EMPTY, 0, ()), 1))
        self.assertEqual((one.plan[4], other.plan[4]), (("a",), ("b",)))


class Put(unittest.TestCase):
    def test_behind_all_words_told_the_same(self):
        shelf = Shelf((EVERY, by_length(2), (), None, ("b", "a", "bb")))
        self.assertEqual([shelf.put("b"), shelf.put(""), shelf.put("aa"), shelf.put("a")], [1, 2, 3, 4])
        self.assertEqual(shelf.plan[4], ("", "b", "a", "b", "a", "bb", "aa"))

    def test_the_image_is_put(self):
        shelf = Shelf((EVERY, PLAIN, (("cut", (1, 1), 2), FOLD), None, ()))
        self.assertEqual([shelf.put("aaab"), shelf.put(""), shelf.put("b")], [1, 2, 3])
        self.assertEqual(shelf.plan[4], ("", "b", "bb"))

    def test_errors_in_the_order_told(self):
        kind = (2, ((1, 0), (0, None)), (True, False))
        shelf = Shelf((kind, by_length(2), (("stop", "b"),), ((1, 0), 5), ("aaaa", "bbbbb")))
        for word in ODD_VALUES + ("c", "a", "aab" + "a", "aa" * 101, "A", "a b"):
            if word not in ("", "b"):
                self.assertEqual(outcome(shelf.put, word), ("raises", "BadWord", word))
        self.assertEqual(outcome(shelf.put, "aa"), ("raises", "Full"))
        self.assertEqual(outcome(shelf.put, "bbbb"), 1)
        # Its image is "a", which has an odd number of "a".
        odd = Shelf((kind, by_length(2), (("cut", (1, 0), 1),), ((1, 0), 0), ()))
        self.assertEqual(outcome(odd.put, "baa"), ("raises", "Outside", "ba"))
        self.assertEqual(outcome(odd.put, "ab"), ("raises", "BadWord", "ab"))
        self.assertEqual(odd.age(), 0)

    def test_crowded_ahead_of_full(self):
        shelf = Shelf((EVERY, PLAIN, (), ((1, 1), 60), ("a",) * 59))
        self.assertEqual(outcome(shelf.put, "bb"), ("raises", "Full"))
        self.assertEqual(outcome(shelf.put, "b"), 1)
        self.assertEqual(outcome(shelf.put, "bb"), ("raises", "Crowded"))
        self.assertEqual(outcome(shelf.put, ""), ("raises", "Crowded"))
        self.assertEqual(len(shelf), 60)

    def test_words_at_the_bounds(self):
        shelf = Shelf((EVERY, PLAIN, (), ((9, 9), 10 ** 6), ()))
        self.assertEqual(outcome(shelf.put, "ab" * 100), 1)
        self.assertEqual(outcome(shelf.put, "ab" * 100 + "a"), ("raises", "BadWord", "ab" * 100 + "a"))
        full = Shelf((EVERY, PLAIN, (), ((0, 3), 9), ("b", "b")))
        self.assertEqual([outcome(full.put, "bb"), outcome(full.put, "b"), outcome(full.put, "aaa"), outcome(full.put, "b")],
                         [("raises", "Full"), 1, 2, ("raises", "Full")])


class Edits(unittest.TestCase):
    def setUp(self):
        self.shelf = Shelf((EVERY, PLAIN, (), ((1, 0), 9), ("", "aa", "ab", "b")))

    def refuses(self, call, value, *error):
        before = look(self.shelf)
        self.assertEqual(outcome(call, value), ("raises", *error))
        self.assertEqual(look(self.shelf), before)

    def test_take(self):
        for index in (-1, 4, 5, 10 ** 59, -10 ** 59, None, True, False, "0", (), [0]):
            self.refuses(self.shelf.take, index, "NoWord", index)
        self.assertEqual([self.shelf.take(3), self.shelf.take(1), self.shelf.plan[4]], [1, 2, ("", "ab")])
        self.assertEqual([self.shelf.take(0), self.shelf.take(0)], [3, 4])
        self.refuses(self.shelf.take, 0, "NoWord", 0)

    def test_weed(self):
        for query in (("is", "c"), ("is", "a" * 21), ("all", [])) + tuple(ODD_VALUES):
            if query != ("is", "a"):
                self.refuses(self.shelf.weed, query, "BadQuery", query)
        self.assertEqual([self.shelf.weed(("has", "a")), self.shelf.plan[4]], [1, ("", "b")])
        # What changes nothing is an edit all the same.
        self.assertEqual([self.shelf.weed(("some", ())), self.shelf.plan[4], self.shelf.age()], [2, ("", "b"), 2])
        self.assertEqual([self.shelf.weed(("below", "b")), self.shelf.plan[4]], [3, ("b",)])
        self.assertEqual(self.shelf.edits()[1], ("weed", ("some", ())))

    def test_weed_by_the_present_comparison(self):
        self.shelf.reorder(by_length(2))
        self.assertEqual([self.shelf.weed(("above", "b")), self.shelf.plan[4]], [2, ("", "b")])

    def test_lay(self):
        for line in ODD_VALUES + ((FOLD,) * 4, [FOLD], (("stop", "c"),), (FOLD, ("cut", (1, 1), 31))):
            if line != ():
                error = outcome(self.shelf.lay, line)
                self.assertEqual(error[:2], ("raises", "BadLine"))
                self.refuses(self.shelf.lay, line, *error[1:])
        self.refuses(self.shelf.lay, (FOLD, ("cut", (1, 1), 31)), "BadLine", (1, "step"))
        self.refuses(self.shelf.lay, (FOLD,) * 4, "BadLine", (None, "many"))
        self.refuses(self.shelf.lay, [FOLD], "BadLine", (None, "line"))
        self.assertEqual([self.shelf.lay((FOLD,)), self.shelf.plan[2], self.shelf.plan[4]], [1, (FOLD,), ("", "aa", "ab", "b")])
        self.assertEqual([self.shelf.put("aa"), self.shelf.plan[4][-1]], [2, "bb"])

    def test_reorder(self):
        self.refuses(self.shelf.reorder, None, "BadComp", "comp")
        self.refuses(self.shelf.reorder, by_length(1), "BadComp", "letters")
        self.refuses(self.shelf.reorder, by_length(3), "BadComp", "letters")
        self.refuses(self.shelf.reorder, (2, PLAIN[1], (0, -1, 2)), "BadComp", "verdicts")
        self.refuses(self.shelf.reorder, (2, PLAIN[1] + ((3,) * 8,), (0, -1, 1)), "BadComp", "verdicts")
        self.refuses(self.shelf.reorder, (2, PLAIN[1], (0, -1, -1)), "Faulty", ("", "a"))
        self.refuses(self.shelf.reorder, (2, PLAIN[1], (1, -1, 1)), "Faulty", "")
        self.assertEqual([self.shelf.reorder(by_length(2)), self.shelf.plan[4]], [1, ("", "b", "aa", "ab")])
        self.assertEqual([self.shelf.reorder(turned(PLAIN)), self.shelf.plan[4]], [2, ("b", "ab", "aa", "")])
        self.assertEqual([self.shelf.reorder(by_length(2)), self.shelf.plan[4]], [3, ("", "b", "ab", "aa")])

    def test_a_comparison_that_is_an_order_on_the_kind_alone(self):
        odd = (1, ((0, 1, 1), (0, 0, 0)), (0, 1))
        evens = Shelf(((1, ((1,), (0,)), (True, False)), odd, (), None, ("aaaa", "")))
        self.assertEqual([evens.put("aa"), evens.reorder(by_length(1)), evens.reorder(odd)], [1, 2, 3])
        self.assertEqual(evens.plan[4], ("", "aa", "aaaa"))
        self.assertEqual(outcome(Shelf, (all_words(1), odd, (), None, ())), ("raises", "BadPlan", ("order", ("", "a"))))

    def test_widen(self):
        for room in ODD_VALUES + (((1, 1), 10 ** 6 + 1), ((1, 1), -1), ((1,), 9), ((10, 0), 9), [(1, 1), 9]):
            if room is not None:
                self.refuses(self.shelf.widen, room, "BadRoom", room)
        self.refuses(self.shelf.widen, ((0, 5), 9), "Full")
        self.assertEqual([self.shelf.widen(((0, 5), 10)), self.shelf.plan[3]], [1, ((0, 5), 10)])
        self.assertEqual([self.shelf.widen(None), self.shelf.plan[3]], [2, None])
        self.assertEqual([self.shelf.widen(((9, 9), 10 ** 6)), self.shelf.plan[3]], [3, ((9, 9), 10 ** 6)])

    def test_words_put_are_as_sorted_by_a_slow_way(self):
        chance = random.Random(1805)
        for _ in range(60):
            for comp in plain_orders(2):
                words = [random_word(chance, 2, chance.randint(0, 4)) for _ in range(12)]
                shelf = Shelf((EVERY, comp, (), None, ()))
                for word in words:
                    shelf.put(word)
                wanted = []
                for word in words:
                    at = len([held for held in wanted if tells(comp, held, word) < 1])
                    wanted.insert(at, word)
                self.assertEqual(list(shelf.plan[4]), wanted)
                self.assertEqual(sorted_by(comp, tuple(words)), tuple(wanted))


class UndoAndRedo(unittest.TestCase):
    def test_through_eighty_edits(self):
        shelf = Shelf((EVERY, then(by_length(2), PLAIN), (), None, ()))
        self.assertEqual([outcome(shelf.undo), outcome(shelf.redo)], [("raises", "NothingToUndo"), ("raises", "NothingToRedo")])
        looks = [shelf.plan]
        for k in range(80):
            self.assertEqual(shelf.put("ab" * (k % 7)) if k % 2 == 0 else shelf.take(0), k + 1)
            looks.append(shelf.plan)
        for call, value in ((shelf.put, "a"), (shelf.take, 0), (shelf.weed, ("is", "a")), (shelf.lay, ()), (shelf.widen, None),
                            (shelf.reorder, PLAIN), (shelf.put, None), (shelf.take, -1), (shelf.weed, 0), (shelf.lay, 0),
                            (shelf.widen, 0), (shelf.reorder, 0), (shelf.attempt, [("put", "a")])):
            self.assertEqual(outcome(call, value), ("raises", "TooManyEdits"))
        self.assertEqual((shelf.plan, shelf.age()), (looks[80], 80))
        for k in range(80, 0, -1):
            self.assertEqual((shelf.plan, shelf.undo()), (looks[k], k - 1))
        self.assertEqual(outcome(shelf.undo), ("raises", "NothingToUndo"))
        for k in range(80):
            self.assertEqual((shelf.plan, shelf.redo()), (looks[k], k + 1))
        self.assertEqual(outcome(shelf.redo), ("raises", "NothingToRedo"))
        self.assertEqual([shelf.undo(), shelf.put("b")], [79, 80])
        self.assertEqual(outcome(shelf.redo), ("raises", "NothingToRedo"))

    def test_an_edit_that_raises_forgets_nothing(self):
        shelf = Shelf((EVERY, PLAIN, (), ((1, 1), 2), ()))
        shelf.put("a")
        shelf.put("b")
        self.assertEqual([shelf.undo(), shelf.undo()], [1, 0])
        for call, value in ((shelf.put, "aaa"), (shelf.put, "c"), (shelf.take, 0), (shelf.weed, 0), (shelf.lay, 0),
                            (shelf.reorder, 0), (shelf.widen, 0), (shelf.attempt, 0), (shelf.attempt, [("put", "c")])):
            self.assertEqual(outcome(call, value)[0], "raises")
        self.assertEqual(to_come(shelf), (("put", "a"), ("put", "b")))
        self.assertEqual([shelf.redo(), shelf.redo(), shelf.plan[4]], [1, 2, ("a", "b")])

    def test_a_new_edit_forgets(self):
        for call, value in (("put", ""), ("take", 0), ("weed", ("some", ())), ("lay", ()), ("reorder", PLAIN), ("widen", None),
                            ("attempt", [("put", "")])):
            shelf = Shelf((EVERY, PLAIN, (), None, ("a",)))
            shelf.put("b")
            shelf.undo()
            getattr(shelf, call)(value)
            self.assertEqual(outcome(shelf.redo), ("raises", "NothingToRedo"))
        shelf.undo()
        shelf.attempt([])
        self.assertEqual(shelf.redo(), 1)


class Operators(unittest.TestCase):
    def test_items(self):
        shelf = Shelf((EVERY, PLAIN, (), None, ("", "aa", "b")))
        self.assertEqual([shelf[0], shelf[1], shelf[2]], ["", "aa", "b"])
        for index in (3, -1, 10 ** 59, True, None, "a", slice(0, 1), (0,)):
            self.assertEqual(outcome(lambda: shelf[index]), ("raises", "NoWord", index))
        with self.assertRaises(LookupError):
            shelf[3]
        self.assertFalse(issubclass(NoWord, ShelfError))

    def test_in_place(self):
        shelf = held = Shelf((EVERY, PLAIN, (FOLD,), None, ("a",)))
        shelf += "aa"
        self.assertIs(shelf, held)
        self.assertEqual((shelf.plan[4], shelf.age(), shelf.edits()), (("a", "bb"), 1, (("put", "aa"),)))
        shelf -= 0
        self.assertIs(shelf, held)
        self.assertEqual((shelf.plan[4], shelf.age(), shelf.edits()[1]), (("bb",), 2, ("take", 0)))
        for value, name in (("c", "BadWord"), (None, "BadWord")):
            with self.assertRaises(ShelfError) as caught:
                shelf += value
            self.assertEqual((caught.exception.__class__.__name__, caught.exception.word), (name, value))
        with self.assertRaises(NoWord) as caught:
            shelf -= 1
        self.assertEqual((caught.exception.index, shelf is held, shelf.age()), (1, True, 2))
        sure = kept = SureShelf(EMPTY)
        sure += "ab"
        self.assertIs(sure, kept)

    def test_str_and_len(self):
        shelf = Shelf(EMPTY)
        self.assertEqual((str(shelf), len(shelf), bool(shelf)), ("0 words, 0 edits", 0, False))
        shelf.put("a")
        self.assertEqual((str(shelf), len(shelf), bool(shelf)), ("1 words, 1 edits", 1, True))
        shelf.attempt([("put", "a"), ("put", "b")])
        self.assertEqual((str(shelf), len(shelf)), ("3 words, 2 edits", 3))

    def test_equality(self):
        one, other, sure = Shelf(EMPTY), Shelf(EMPTY), SureShelf(EMPTY)
        self.assertTrue(one == other and not one != other and sure == SureShelf(EMPTY) and not sure != SureShelf(EMPTY))
        self.assertTrue(one != sure and sure != one and not one == sure and not sure == one)
        one.put("a")
        self.assertTrue(one != other and not one == other)
        one.undo()
        one.put("b")
        one.take(0)
        self.assertTrue(one == other)
        for value in (EMPTY, None, 0, "", (), [], {}, one.plan[4], "0 words, 0 edits", True, False, Shelf):
            self.assertTrue(one != value and not one == value and value != one and not value == one)
        self.assertFalse(Shelf((EVERY, PLAIN, (), None, ("a",))) == Shelf((EVERY, PLAIN, (), ((1, 1), 9), ("a",))))


class Kept(unittest.TestCase):
    def test_what_is_passed_is_not_changed(self):
        chance = random.Random(1806)
        for _ in range(200):
            plan = good_plan(chance)
            shelf, kept = Shelf(plan), copy.deepcopy(plan)
            values = [some_item(chance, plan) for _ in range(6)]
            held = copy.deepcopy(values)
            for name, value in values:
                outcome(getattr(shelf, name), value)
            outcome(shelf.attempt, values)
            outcome(shelf.find, random_query(chance, plan[0][0], 2))
            outcome(shelf.moves, some_value(chance, "reorder", plan))
            self.assertEqual(repr((plan, values)), repr((kept, held)))

    def test_later_changes_to_an_argument(self):
        shelf = Shelf(EMPTY)
        edits = [("put", "a"), ("put", "b")]
        shelf.attempt(edits)
        edits.append(("put", "ab"))
        edits[0] = ("put", "aa")
        self.assertEqual(shelf.edits(), (("attempt", (("put", "a"), ("put", "b"))),))
        shelf.undo()
        edits.clear()
        shelf.redo()
        self.assertEqual(shelf.plan[4], ("a", "b"))

    def test_fields_are_the_very_objects(self):
        shelf, word, query, room = Shelf(EMPTY), ["a"], ["is", "a"], [1]
        for call, value, field in ((shelf.put, word, "word"), (shelf.weed, query, "query"), (shelf.widen, room, "room"),
                                   (shelf.take, room, "index"), (shelf.find, query, "query"), (shelf.places, word, "word")):
            try:
                call(value)
            except (ShelfError, NoWord) as error:
                self.assertEqual(getattr(error, field), value)


class Great(unittest.TestCase):
    def test_great_sizes(self):
        chance = random.Random(1807)
        kind = wheel(6, ((1, 1), (1, 2), (5, 1)), (0, 2, 3))
        one, other = sums(3, 7, (1, 2, 4)), sums(3, 7, (2, 1, 5))
        words = []
        while len(words) < 60:
            word = random_word(chance, 3, 200)
            words += [word] if holds(kind, word) else []
        shelf = timed(Shelf, (kind, one, (), ((9, 9, 9), 10 ** 6), sorted_by(one, tuple(words))))
        self.assertEqual([timed(shelf.take, 30), timed(shelf.put, words[0]), timed(shelf.reorder, other)], [1, 2, 3])
        self.assertEqual(shelf.plan[4], sorted_by(other, shelf.plan[4]))
        self.assertEqual([timed(shelf.moves, one) > 0, timed(shelf.moves, other)], [True, 0])
        line = random_line(chance, 3)
        self.assertEqual([timed(shelf.lay, line), timed(shelf.undo), timed(shelf.redo)], [4, 3, 4])
        query = ("all", (("seen", random_line(chance, 3), ("not", ("has", "abca"))),) * 4)
        self.assertIsInstance(timed(shelf.find, query), tuple)
        self.assertEqual(timed(shelf.weed, query), 5)
        self.assertTrue(all(image((), word) == word for word in shelf.plan[4]))


if __name__ == "__main__":
    unittest.main()
