"""find, places, page, moves, plan_at, age, edits (point 20)."""

import itertools
import random
import unittest

from sortedshelves.comps import by_length, by_ranks, tells, then, turned
from sortedshelves.edits import sorted_by
from sortedshelves.shelves import Shelf
from tests.naive import all_words, naive_answers, random_query
from tests.reference import random_word
from tests.shelfmodel import Model, look, outcome
from tests.shelfplans import ODD_VALUES, good_plan, is_sorted, plain_orders, some_item, some_value

EVERY = all_words(2)
PLAIN = by_ranks(2, (0, 1))
SHORT = by_length(2)


def a_shelf(words=("", "aa", "ab", "b")):
    return Shelf((EVERY, PLAIN, (), None, words))


class AgainstTheModel(unittest.TestCase):
    def test_all_queries(self):
        chance = random.Random(2001)
        seen = set()
        for _ in range(150):
            plan = good_plan(chance)
            model, shelf = Model(plan), Shelf(plan)
            for _ in range(8):
                name, value = some_item(chance, plan)
                self.assertEqual(outcome(getattr(shelf, name), value), outcome(model.edit, name, value))
            before = look(shelf)
            for _ in range(6):
                query, word = some_value(chance, "weed", plan), some_value(chance, "put", plan)
                comp = some_value(chance, "reorder", plan)
                first, many = [chance.choice((0, 1, 2, 5, 10 ** 59, chance.choice(ODD_VALUES))) for _ in range(2)]
                for wanted, found in ((outcome(model.find, query), outcome(shelf.find, query)),
                                      (outcome(model.places, word), outcome(shelf.places, word)),
                                      (outcome(model.page, first, many), outcome(shelf.page, first, many)),
                                      (outcome(model.moves, comp), outcome(shelf.moves, comp))):
                    self.assertEqual(repr(found), repr(wanted))
                    seen.add(found[1] if isinstance(found, tuple) and found[:1] == ("raises",) else "ok")
            self.assertEqual(look(shelf), before)
        self.assertEqual(seen, {"ok", "BadQuery", "BadWord", "BadPage", "BadComp", "Faulty"})


class Find(unittest.TestCase):
    def test_indexes_in_order(self):
        shelf = a_shelf(("", "aa", "aa", "ab", "b"))
        self.assertEqual([shelf.find(("is", "aa")), shelf.find(("has", "b")), shelf.find(("all", ())), shelf.find(("some", ()))],
                         [(1, 2), (3, 4), (0, 1, 2, 3, 4), ()])
        self.assertEqual([shelf.find(("below", "ab")), shelf.find(("above", "ab")), shelf.find(("like", "ab"))],
                         [(0, 1, 2), (4,), (3,)])
        self.assertEqual(shelf.find(query=("seen", (("stop", "b"),), ("is", ""))), (0, 4))

    def test_values_that_are_no_queries(self):
        shelf = a_shelf()
        for query in ODD_VALUES + (("is", "c"), ("has", ""), ("not", ("not", ("not", ("not", ("is", ""))))), ("all", [])):
            if query != ("is", "a"):
                self.assertEqual(outcome(shelf.find, query), ("raises", "BadQuery", query))

    def test_the_present_comparison_is_asked(self):
        shelf = a_shelf()
        shelf.reorder(SHORT)
        self.assertEqual([shelf.plan[4], shelf.find(("like", "ba")), shelf.find(("below", "ba"))],
                         [("", "b", "aa", "ab"), (2, 3), (0, 1)])

    def test_against_answers(self):
        chance = random.Random(2002)
        for _ in range(200):
            plan = good_plan(chance, few=12)
            query, shelf = random_query(chance, plan[0][0], 4), Shelf(plan)
            wanted = tuple(k for k, word in enumerate(plan[4]) if naive_answers(plan[1], query, word))
            self.assertEqual(shelf.find(query), wanted)
            shelf.weed(query)
            self.assertEqual(shelf.plan[4], tuple(word for k, word in enumerate(plan[4]) if k not in wanted))


class Places(unittest.TestCase):
    def test_below_and_like(self):
        shelf = Shelf((EVERY, SHORT, (), None, ("", "a", "b", "bb", "aa", "aaa")))
        self.assertEqual([shelf.places(word) for word in ("", "b", "ab", "bbb", "bbbb")], [(0, 1), (1, 3), (3, 5), (5, 6), (6, 6)])
        self.assertEqual([a_shelf(()).places("ab"), a_shelf().places(word="ab"), a_shelf().places("ba")], [(0, 0), (2, 3), (4, 4)])

    def test_words_that_are_not_of_the_kind(self):
        # It need not be of the kind, and beside such words the comparison need not be an order.
        odd = (1, ((0, 1, 1), (0, 0, 0)), (0, 1))
        shelf = Shelf(((1, ((1,), (0,)), (True, False)), odd, (), None, ("", "aa", "aaaa")))
        self.assertEqual([shelf.places("a"), shelf.places("aa"), shelf.places("aaa")], [(0, 0), (0, 3), (0, 0)])
        nothing = Shelf(((2, ((0, 0),), (False,)), PLAIN, (), None, ()))
        self.assertEqual(nothing.places("ab"), (0, 0))

    def test_values_that_are_no_words(self):
        for word in ODD_VALUES + ("c", "abc", "A", "a" * 201, "a b"):
            if word not in ("", "a", "b", "ab"):
                self.assertEqual(outcome(a_shelf().places, word), ("raises", "BadWord", word))
        self.assertEqual(a_shelf().places("b" * 200), (4, 4))


class Page(unittest.TestCase):
    def test_pages(self):
        shelf = a_shelf()
        words = shelf.plan[4]
        for first, many in itertools.product(range(7), repeat=2):
            self.assertEqual(shelf.page(first, many), words[first:first + many])
        self.assertEqual([shelf.page(0, 10 ** 59), shelf.page(10 ** 59, 1), shelf.page(many=2, first=1), a_shelf(()).page(0, 3)],
                         [words, (), ("aa", "ab"), ()])

    def test_values_that_are_no_numbers(self):
        for value in (None, True, False, -1, -10 ** 59, "0", "", (), [1], {}):
            for first, many in ((value, 0), (0, value), (value, value), (value, -1)):
                self.assertEqual(repr(outcome(a_shelf().page, first, many)), repr(("raises", "BadPage", first, many)))


class Moves(unittest.TestCase):
    def test_against_all_words_that_may_stay(self):
        chance = random.Random(2003)
        for _ in range(120):
            orders = plain_orders(2)
            words = sorted_by(orders[0], tuple(random_word(chance, 2, chance.randint(0, 3)) for _ in range(8)))
            shelf = Shelf((EVERY, orders[0], (), None, words))
            for comp in orders:
                stay = max(many for many in range(len(words) + 1) if any(
                    is_sorted(comp, held) for held in itertools.combinations(words, many)))
                self.assertEqual(shelf.moves(comp), len(words) - stay)

    def test_some(self):
        shelf = Shelf((EVERY, PLAIN, (), None, ("", "a", "aa", "ab", "b", "bb")))
        self.assertEqual([shelf.moves(PLAIN), shelf.moves(turned(PLAIN)), shelf.moves(SHORT), shelf.moves(comp=turned(SHORT)),
                          shelf.moves(by_ranks(2, (1, 0)))], [0, 5, 1, 3, 3])
        self.assertEqual([a_shelf(()).moves(SHORT), a_shelf(("a",)).moves(turned(SHORT)), a_shelf(("a", "a")).moves(PLAIN)],
                         [0, 0, 0])
        self.assertEqual(shelf.age(), 0)

    def test_sixty_words(self):
        words = tuple("a" * k for k in range(60))
        shelf = Shelf((EVERY, PLAIN, (), None, words))
        self.assertEqual([shelf.moves(PLAIN), shelf.moves(turned(PLAIN)), shelf.moves(then(SHORT, turned(PLAIN)))], [0, 59, 0])

    def test_values_that_are_no_orders(self):
        shelf = a_shelf()
        for comp in ODD_VALUES:
            self.assertEqual(outcome(shelf.moves, comp), ("raises", "BadComp", "comp"))
        self.assertEqual(outcome(shelf.moves, by_length(3)), ("raises", "BadComp", "letters"))
        self.assertEqual(outcome(shelf.moves, (2, PLAIN[1], (0, -1, 2))), ("raises", "BadComp", "verdicts"))
        self.assertEqual(outcome(shelf.moves, (2, PLAIN[1], (0, -1, -1))), ("raises", "Faulty", ("", "a")))
        self.assertEqual(outcome(shelf.moves, (2, ((0,) * 8,), (1,))), ("raises", "Faulty", ""))


class Versions(unittest.TestCase):
    def test_plan_at(self):
        shelf = a_shelf()
        plans = [shelf.plan]
        for call, value in ((shelf.put, "a"), (shelf.take, 0), (shelf.reorder, SHORT), (shelf.attempt, [("put", "b")] * 3),
                            (shelf.widen, ((1, 1), 99)), (shelf.lay, (("stop", "a"),))):
            call(value)
            plans.append(shelf.plan)
        self.assertEqual([shelf.plan_at(version=k) for k in range(7)], plans)
        self.assertEqual([shelf.plan_at(), shelf.plan_at(version=None)], [plans[6]] * 2)
        shelf.undo()
        shelf.undo()
        self.assertEqual([shelf.plan_at(version=k) for k in range(5)] + [shelf.plan_at()], plans[:5] + [plans[4]])
        for version in (5, 6, 7, -1, 10 ** 59, True, False, "0", (), [], {}, "", (None,)):
            self.assertEqual(repr(outcome(shelf.plan_at, version=version)), repr(("raises", "NoVersion", version)))
        with self.assertRaises(TypeError):
            shelf.plan_at(0)
        with self.assertRaises(LookupError):
            shelf.plan_at(version=5)

    def test_age_and_edits(self):
        shelf = a_shelf()
        self.assertEqual((shelf.age(), shelf.edits()), (0, ()))
        shelf.put("a")
        shelf.weed(("is", "b"))
        shelf.attempt([("take", 0)])
        shelf.widen(None)
        self.assertEqual((shelf.age(), shelf.edits()),
                         (4, (("put", "a"), ("weed", ("is", "b")), ("attempt", (("take", 0),)), ("widen", None))))
        shelf.undo()
        self.assertEqual((shelf.age(), len(shelf.edits())), (3, 3))

    def test_results_are_plain_values(self):
        shelf = a_shelf()
        shelf.put("a")
        for found in (shelf.plan, shelf.edits(), shelf.find(("all", ())), shelf.places("a"), shelf.page(0, 2), shelf.plan_at()):
            self.assertIs(type(found), tuple)
        for found in (shelf.age(), shelf.moves(SHORT), shelf.put("b"), shelf.undo(), len(shelf)):
            self.assertIs(type(found), int)
        self.assertIs(type(str(shelf)), str)
        self.assertEqual(tells(shelf.plan[1], shelf[0], shelf[1]), -1)


if __name__ == "__main__":
    unittest.main()
