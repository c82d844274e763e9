"""rank, alikes, between, between_count (point 14)."""

import random
import unittest

from sortedshelves.comps import by_length, by_ranks, tells, then, turned
from sortedshelves.machines import count, size
from sortedshelves.ranks import alikes, between, between_count, rank
from tests.naive import all_words, beside_graph, first_of_graph, some_comp, some_kind, sums
from tests.reference import chain, holds, random_comp, random_word, timed, wheel, words_of

EVERY = all_words(2)
PLAIN = by_ranks(2, (0, 1))
STRICT = then(by_length(2), PLAIN)
FIBONACCI = (2, ((0, 1), (0, None)), (True, True))


def total(kind, length):
    """How many words of the kind are shorter than this."""
    return sum(count(kind, n) for n in range(length))


class Against(unittest.TestCase):
    def test_against_graphs(self):
        chance = random.Random(951)
        told = {"none": 0, "many": 0, "words": 0}
        for _ in range(700):
            letters = chance.choice((1, 2, 2, 3))
            kind, comp = some_kind(chance, letters), some_comp(chance, letters)
            low, high = [random_word(chance, letters, chance.randint(0, 6)) for _ in range(2)]
            self.assertEqual(rank(kind, comp, low), size(beside_graph(kind, comp, [(low, False, -1)])))
            self.assertEqual(alikes(kind, comp, low), size(beside_graph(kind, comp, [(low, False, 0)])))
            graph = beside_graph(kind, comp, [(low, True, -1), (high, False, -1)])
            self.assertEqual(between_count(kind, comp, low, high), size(graph))
            self.assertEqual(between(kind, comp, low, high), first_of_graph(graph))
            told["none" if size(graph) is None else "many" if size(graph) else "words"] += 1
        self.assertGreater(min(told.values()), 20)

    def test_against_finite_kinds_word_by_word(self):
        chance = random.Random(952)
        for _ in range(300):
            letters = chance.choice((1, 2, 3))
            kind = chain(chance.randint(1, 5), letters, (0, 2, 3))
            comp, words = some_comp(chance, letters), words_of(kind, 5)
            low, high = [random_word(chance, letters, chance.randint(0, 7)) for _ in range(2)]
            self.assertEqual(rank(kind, comp, low), sum(tells(comp, word, low) == -1 for word in words))
            self.assertEqual(alikes(kind, comp, low), sum(tells(comp, word, low) == 0 for word in words))
            held = [word for word in words if tells(comp, low, word) == -1 and tells(comp, word, high) == -1]
            self.assertEqual(between_count(kind, comp, low, high), len(held))
            self.assertEqual(between(kind, comp, low, high), held[0] if held else None)


class Edges(unittest.TestCase):
    def test_long_words(self):
        word = "ab" * 150
        # All shorter words are below, and those of this length that begin with "aa" or with "ab" so often and "aa".
        self.assertEqual(rank(EVERY, STRICT, word), 2 ** 300 - 1 + sum(2 ** n for n in range(0, 300, 2)))
        self.assertEqual(alikes(EVERY, STRICT, word), 1)
        self.assertEqual(alikes(EVERY, by_length(2), word), 2 ** 300)
        self.assertEqual(rank(FIBONACCI, by_length(2), word), total(FIBONACCI, 300))
        self.assertEqual(alikes(FIBONACCI, by_length(2), "b" * 400), count(FIBONACCI, 400))
        self.assertEqual(between_count(EVERY, STRICT, word, word + "a"),
                         rank(EVERY, STRICT, word + "a") - rank(EVERY, STRICT, word) - 1)
        self.assertEqual(between(EVERY, STRICT, word, word + "a"), word[:-2] + "ba")
        self.assertEqual(between(EVERY, STRICT, "b" * 300, "a" * 301 + "b"), "a" * 301)
        self.assertIsNone(between(EVERY, STRICT, "b" * 300, "a" * 301))
        self.assertEqual(between(EVERY, PLAIN, "a" * 300, "a" * 300 + "b"), "a" * 301)
        self.assertEqual(between(EVERY, PLAIN, "a" * 300 + "b", "a" * 299 + "b"), "a" * 300 + "ba")

    def test_words_that_are_not_of_the_kind(self):
        self.assertEqual(rank(FIBONACCI, STRICT, "bb"), 6)
        self.assertEqual(rank(FIBONACCI, STRICT, "aab"), 7)
        self.assertEqual(alikes(FIBONACCI, STRICT, "bb"), 0)
        self.assertEqual(alikes(FIBONACCI, by_length(2), "bb"), 3)
        self.assertEqual(between_count(FIBONACCI, STRICT, "bb", "bbb"), 5)
        self.assertEqual(between(FIBONACCI, STRICT, "bb", "bbb"), "aaa")
        nothing = (2, ((0, 0),), (False,))
        self.assertEqual([rank(nothing, STRICT, "b"), alikes(nothing, STRICT, "b"), between_count(nothing, STRICT, "", "bb"),
                          between(nothing, STRICT, "", "bb")], [0, 0, 0, None])

    def test_the_empty_word(self):
        self.assertEqual([rank(EVERY, STRICT, ""), alikes(EVERY, STRICT, ""), rank(EVERY, turned(STRICT), "")],
                         [0, 1, None])
        self.assertEqual([between(EVERY, STRICT, "", ""), between_count(EVERY, STRICT, "", "b")], [None, 1])
        self.assertEqual(alikes((2, ((1, 1), (0, 0)), (False, True)), STRICT, ""), 0)

    def test_without_end(self):
        self.assertIsNone(rank(EVERY, PLAIN, "b"))
        self.assertEqual(rank(EVERY, PLAIN, "aaa"), 3)
        self.assertIsNone(between_count(EVERY, PLAIN, "a", "b"))
        self.assertEqual(between_count(EVERY, PLAIN, "a", "aaa"), 1)
        self.assertIsNone(alikes(EVERY, (2, ((0,) * 8,), (0,)), "ab"))
        self.assertIsNone(between_count(EVERY, (2, ((0,) * 8,), (-1,)), "a", "b"))
        self.assertEqual(between_count(chain(6, 2), (2, ((0,) * 8,), (-1,)), "a", "b"), 32)
        # Rings that lead to no end are not words.
        self.assertEqual(rank((2, ((1, 2), (1, None), (None, None)), (True, False, True)), PLAIN, "bb"), 2)

    def test_comparisons_that_are_no_orders(self):
        less = (1, ((0, 0, 0),), (-1,))
        one = chain(3, 1, (0, 1, 2))
        self.assertEqual([rank(one, less, "a"), alikes(one, less, "a"), between_count(one, less, "a", "a"),
                          between(one, less, "a", "a")], [3, 0, 3, ""])
        # Which of both is the first one matters: a word with more letters is less, but not beside the empty one.
        comp = (1, ((1, 0, 0), (1, 2, 1), (2, 2, 2)), (0, 0, -1))
        self.assertIsNone(rank(all_words(1), comp, "a"))
        self.assertEqual(between(all_words(1), comp, "aa", "a"), None)
        self.assertEqual(between(all_words(1), comp, "aaaaa", "a"), "aa")
        self.assertEqual(between_count(all_words(1), comp, "aaaaa", "a"), 3)
        self.assertEqual(rank(all_words(1), comp, ""), 0)


class Great(unittest.TestCase):
    def test_great_sizes(self):
        chance = random.Random(953)
        for seed in range(2):
            letters = chance.choice((2, 3))
            kind = wheel(6, ((1, 1), (1, 2), (5, 1))[:letters], range(seed % 3, 6))
            low, high = [random_word(chance, letters, 300) for _ in range(2)]
            for comp in (random_comp(chance, letters, 60), sums(letters, 7, (1, 2, 4)),
                         then(by_length(letters), by_ranks(letters, (0, 1, 2)[:letters]))):
                timed(rank, kind, comp, low)
                timed(alikes, kind, comp, low)
                timed(between_count, kind, comp, low, high)
                found = timed(between, kind, comp, low, high)
                if found is not None:
                    self.assertTrue(holds(kind, found))
                    self.assertEqual((tells(comp, low, found), tells(comp, found, high)), (-1, -1))


if __name__ == "__main__":
    unittest.main()
