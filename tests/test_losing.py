"""loses, unsorts (point 9)."""

import random
import unittest

from sortedshelves.comps import by_length, by_ranks, tells, then, turned
from sortedshelves.lines import leaves, loses, unsorts
from sortedshelves.orders import is_order
from sortedshelves.steps import image
from tests.naive import (
    all_words, longest, naive_loses, naive_unsorts, some_comp, some_kind, sums, tuples_of,
)
from tests.reference import chain, holds, random_comp, random_line, random_step, timed, wheel, words_of

EVERY = all_words(2)
FOLD = ("pass", ((0, 0),), (("b", "b"),))
SWAP = ("swap", (("ab", "ba"),))


class Against(unittest.TestCase):
    def told(self, found, wanted, length, what):
        if wanted is not None:
            self.assertEqual(found, wanted, what)
        elif found is not None:
            self.assertGreater(longest(found), length, what)

    def test_loses(self):
        chance = random.Random(911)
        lengths = {1: 10, 2: 7, 3: 4}
        for _ in range(700):
            letters = chance.choice((1, 2, 2, 3))
            kind, line = some_kind(chance, letters), random_line(chance, letters)
            found = loses(kind, line)
            words = words_of(kind, lengths[letters])
            self.told(found, naive_loses(words, line), lengths[letters], (kind, line))
            if found is not None:
                self.assertTrue(all(holds(kind, word) for word in found))
                self.assertNotEqual(*found)
                self.assertEqual(*[image(line, word) for word in found])

    def test_unsorts(self):
        chance = random.Random(912)
        lengths = {1: 7, 2: 4, 3: 2}
        for _ in range(700):
            letters = chance.choice((1, 2, 2, 3))
            kind, line, comp = some_kind(chance, letters), random_line(chance, letters), some_comp(chance, letters)
            found = unsorts(kind, comp, line)
            pairs = tuples_of(words_of(kind, lengths[letters]), 2)
            self.told(found, naive_unsorts(pairs, comp, line), lengths[letters], (kind, line, comp))
            if found is not None:
                self.assertTrue(all(holds(kind, word) for word in found))
                self.assertLess(tells(comp, *found), 1)
                self.assertEqual(tells(comp, *[image(line, word) for word in found]), 1)

    def test_sorted_words_stay_sorted_and_unlike(self):
        chance = random.Random(913)
        tried = 0
        for _ in range(2000):
            kind, line, comp = some_kind(chance, 2), random_line(chance, 2), some_comp(chance, 2)
            if not is_order(kind, comp) or leaves(kind, line, kind) or loses(kind, line) or unsorts(kind, comp, line):
                continue
            tried += 1
            words = words_of(kind, 5)
            images = [image(line, word) for word in words]
            self.assertEqual(len(set(images)), len(words))
            self.assertTrue(all(holds(kind, word) for word in images))
            for one, first in zip(words, images):
                for other, second in zip(words, images):
                    self.assertTrue(tells(comp, one, other) == 1 or tells(comp, first, second) < 1)
        self.assertGreater(tried, 100)


class Edges(unittest.TestCase):
    def test_kinds_without_words_and_with_one(self):
        nothing, empty = (2, ((0, 0),), (False,)), (2, ((None, None),), (True,))
        for kind in (nothing, empty, (2, ((1, None), (None, None)), (False, True))):
            self.assertIsNone(loses(kind, (FOLD,)))
            self.assertIsNone(unsorts(kind, by_ranks(2, (0, 1)), (FOLD,)))

    def test_first_by_the_longest_word(self):
        # "b" and "" have one image; shorter pairs are ahead of those that Python's order has ahead.
        self.assertEqual(loses(EVERY, (("stop", "b"),)), ("", "b"))
        self.assertEqual(loses(EVERY, (("stop", "b"), ("cut", (1, 1), 0))), ("", "a"))
        self.assertEqual(loses(EVERY, (("cut", (1, 1), 1),)), ("a", "aa"))
        self.assertEqual(loses(EVERY, (("cut", (0, 1), 2),)), ("bb", "bbb"))
        self.assertEqual(loses((2, ((None, 1), (1, 1)), (False, True)), (("cut", (2, 2), 5),)), ("ba", "baa"))

    def test_pairs_of_unlike_lengths(self):
        # Words of two lengths with the same image, of which the longer one is the second one.
        kind = (2, ((None, 1), (2, None), (3, None), (None, None)), (False, True, False, True))
        self.assertEqual(loses(kind, (("cut", (1, 1), 1),)), ("b", "baa"))
        kind = (2, ((1, 2), (1, None), (None, None)), (False, True, True))
        self.assertEqual(loses(kind, (("stop", "b"), ("cut", (1, 1), 3))), ("aaa", "aaaa"))

    def test_late_pairs(self):
        self.assertEqual(loses(EVERY, (("cut", (0, 1), 30),)), ("b" * 30, "b" * 31))
        twos = (2, ((1, 1), (0, 0)), (True, False))
        self.assertEqual(loses(twos, (("cut", (0, 1), 30),)), ("b" * 30, "b" * 31 + "a"))
        self.assertIsNone(loses(chain(6, 2), (("cut", (1, 1), 5),)))
        self.assertIsNotNone(loses(chain(6, 2), (("cut", (1, 1), 4),)))

    def test_swaps_lose_what_they_bring_together(self):
        self.assertEqual(loses(EVERY, (SWAP,)), ("aab", "baa"))
        self.assertIsNone(loses(EVERY, (("swap", (("a", "b"),)),)))
        self.assertEqual(loses(EVERY, (("swap", (("a", "b"),)), FOLD)), ("a", "b"))

    def test_unsorts_of_a_word_and_itself(self):
        # Of "a" and itself it tells 0, but of "b" and itself 1.
        comp = (2, ((0, 0, 0, 0, 1, 0, 0, 0), (1,) * 8), (0, 1))
        self.assertEqual(unsorts(EVERY, comp, (FOLD,)), ("a", "a"))
        self.assertEqual(unsorts((2, ((1, None), (None, None)), (False, True)), comp, (FOLD,)), ("a", "a"))
        self.assertIsNone(unsorts((2, ((None, 1), (None, None)), (False, True)), comp, (FOLD,)))

    def test_comparisons_that_are_no_orders(self):
        self.assertIsNone(unsorts(EVERY, (2, ((0,) * 8,), (1,)), (FOLD,)))
        self.assertIsNone(unsorts(EVERY, (2, ((0,) * 8,), (-1,)), (FOLD,)))
        self.assertEqual(unsorts(EVERY, turned(by_ranks(2, (0, 1))), (FOLD,)), ("b", "aa"))

    def test_unlike_lengths_unsort_by_a_cut(self):
        short = then(by_length(2), by_ranks(2, (0, 1)))
        self.assertIsNone(unsorts(EVERY, by_length(2), (("cut", (1, 1), 3),)))
        self.assertEqual(unsorts(EVERY, by_length(2), (("stop", "b"),)), ("a", "b"))
        self.assertEqual(unsorts(EVERY, by_length(2), (("cut", (0, 1), 2),)), ("aaa", "bbb"))
        self.assertEqual(unsorts(EVERY, short, (("cut", (0, 1), 2),)), ("aaa", "bbb"))


class Great(unittest.TestCase):
    def test_great_sizes(self):
        chance = random.Random(914)
        for seed in range(12):
            letters = chance.choice((2, 3))
            kind = wheel(6, ((1, 1), (1, 2), (5, 1))[:letters], range(seed % 3, 6))
            line = tuple(random_step(chance, letters) for _ in range(3))
            timed(loses, kind, line)
            timed(unsorts, kind, sums(letters, 7, (1, 2, 4)), line[:1])
            timed(unsorts, kind, then(by_length(letters), by_ranks(letters, (0, 1, 2)[:letters])), line)
            timed(unsorts, kind, random_comp(chance, letters, 60), line)


if __name__ == "__main__":
    unittest.main()
