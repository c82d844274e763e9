"""least, leaders, just_above (point 14)."""

import random
import unittest

from sortedshelves.comps import by_length, by_ranks, tells, then, turned
from sortedshelves.ranks import just_above, leaders, least
from tests.naive import all_words, naive_just_above, naive_leaders, some_comp, some_kind, sums
from tests.reference import chain, holds, random_comp, random_word, ring, timed, wheel, words_of

EVERY = all_words(2)
PLAIN = by_ranks(2, (0, 1))
STRICT = then(by_length(2), PLAIN)
NOTHING = (2, ((0, 0),), (False,))


class Against(unittest.TestCase):
    def test_against_sets_of_what_words_come_to(self):
        chance = random.Random(961)
        told = {}
        for _ in range(600):
            letters = chance.choice((1, 2, 2, 3))
            kind, comp = some_kind(chance, letters, 4), some_comp(chance, letters, 4)
            many, word = chance.randint(0, 6), random_word(chance, letters, chance.randint(0, 6))
            found = leaders(kind, comp, many)
            self.assertEqual(found, naive_leaders(kind, comp, many), (kind, comp, many))
            self.assertEqual(least(kind, comp), (leaders(kind, comp, 1) + (None,))[0])
            above = just_above(kind, comp, word)
            self.assertEqual(above, naive_just_above(kind, comp, word), (kind, comp, word))
            told[len(found)] = told.get(len(found), 0) + 1
            told[above is None] = told.get(above is None, 0) + 1
        self.assertTrue(all(told[key] > 10 for key in (0, 1, 2, 3, True, False)))

    def test_against_finite_kinds_word_by_word(self):
        chance = random.Random(962)
        for _ in range(400):
            letters = chance.choice((1, 2, 3))
            kind = chain(chance.randint(1, 4), letters, tuple(chance.sample(range(4), 3)))
            comp, words = some_comp(chance, letters), words_of(kind, 4)
            left, wanted = list(words), []
            while len(wanted) < 12:
                low = [word for word in left if not any(tells(comp, other, word) == -1 for other in left)]
                if not low:
                    break
                wanted.append(low[0])
                left.remove(low[0])
            self.assertEqual(leaders(kind, comp, 12), tuple(wanted))
            word = random_word(chance, letters, chance.randint(0, 5))
            held = [other for other in words if tells(comp, word, other) == -1]
            high = [other for other in held if not any(tells(comp, one, other) == -1 for one in held)]
            self.assertEqual(just_above(kind, comp, word), high[0] if high else None)


class Edges(unittest.TestCase):
    def test_many(self):
        self.assertEqual(leaders(EVERY, STRICT, 0), ())
        self.assertEqual(leaders(EVERY, STRICT, 12), tuple(words_of(EVERY, 3)[:12]))
        self.assertEqual(leaders(NOTHING, STRICT, 12), ())
        self.assertEqual(leaders(chain(3, 2), STRICT, 12), ("aa", "ab", "ba", "bb"))
        self.assertEqual(leaders(chain(3, 2), turned(STRICT), 3), ("bb", "ba", "ab"))
        self.assertEqual(leaders(chain(3, 2, (0, 2)), by_ranks(2, (1, 0)), 12), ("", "bb", "ba", "ab", "aa"))

    def test_descending_orders_have_no_least_word(self):
        self.assertIsNone(least(EVERY, turned(PLAIN)))
        self.assertIsNone(least(EVERY, turned(by_length(2))))
        self.assertEqual(leaders(EVERY, turned(PLAIN), 5), ())
        self.assertIsNone(just_above(EVERY, turned(by_length(2)), ""))
        self.assertEqual(just_above(EVERY, turned(STRICT), "ba"), "ab")
        # Each word but those of "b" alone has a next one, and below "b" there is none that is last.
        self.assertEqual(leaders(EVERY, PLAIN, 4), ("", "a", "aa", "aaa"))
        self.assertIsNone(least(NOTHING, STRICT))

    def test_words_like_one_another(self):
        self.assertEqual(leaders(EVERY, by_length(2), 4), ("", "a", "b", "aa"))
        self.assertEqual(leaders(EVERY, (2, ((0,) * 8,), (0,)), 5), ("", "a", "b", "aa", "ab"))
        self.assertEqual(just_above(EVERY, by_length(2), "ab"), "aaa")
        self.assertIsNone(just_above(EVERY, (2, ((0,) * 8,), (0,)), "ab"))
        self.assertEqual(leaders(ring(3, (1,)), by_length(1), 3), ("a", "aaaa", "aaaaaaa"))

    def test_a_word_below_itself_is_no_least_one(self):
        less = (2, ((0,) * 8,), (-1,))
        self.assertIsNone(least(EVERY, less))
        self.assertEqual(leaders(EVERY, less, 3), ())
        self.assertIsNone(just_above(EVERY, less, "a"))
        # Of "b" and itself alone it tells -1.
        own = (2, ((0, 2, 1, 2, 1, 2, 2, 2), (1, 1, 2, 1, 1, 2, 2, 2), (2,) * 8), (0, -1, 1))
        self.assertEqual(least((2, ((None, 1), (None, None)), (False, True)), own), None)
        self.assertEqual(least((2, ((1, None), (None, None)), (False, True)), own), "a")

    def test_words_taken_away_let_others_be_least(self):
        # Longer words of "a" alone are above; "b" is above all of these, without end.
        found = leaders(EVERY, PLAIN, 12)
        self.assertEqual(found, tuple("a" * n for n in range(12)))
        mixed = then(by_ranks(2, (0, 0)), by_ranks(2, (1, 0)))
        self.assertEqual(leaders(EVERY, mixed, 7), ("", "b", "a", "bb", "ba", "ab", "aa"))

    def test_just_above_words_that_are_not_of_the_kind(self):
        fibonacci = (2, ((0, 1), (0, None)), (True, True))
        self.assertEqual(just_above(fibonacci, STRICT, "ab"), "ba")
        self.assertEqual(just_above(fibonacci, STRICT, "bb"), "aaa")
        self.assertEqual(just_above(fibonacci, PLAIN, "abb"), "b")
        self.assertEqual(just_above(EVERY, PLAIN, "abb"), "abba")
        self.assertIsNone(just_above(fibonacci, PLAIN, "bb"))
        self.assertEqual(just_above(chain(4, 2), STRICT, ""), "aaa")
        self.assertIsNone(just_above(chain(4, 2), STRICT, "bbb"))
        self.assertIsNone(just_above(NOTHING, STRICT, ""))

    def test_just_above_long_words(self):
        self.assertEqual(just_above(EVERY, STRICT, "ab" * 150), "ab" * 149 + "ba")
        self.assertEqual(just_above(EVERY, STRICT, "b" * 300), "a" * 301)
        self.assertEqual(just_above(EVERY, PLAIN, "b" * 300), "b" * 300 + "a")
        self.assertEqual(just_above(ring(6, (5,), 2), by_length(2), "b" * 299), "a" * 305)


class Great(unittest.TestCase):
    def test_great_sizes(self):
        chance = random.Random(963)
        for seed, letters in enumerate((2, 3)):
            kind = wheel(6, ((1, 1), (1, 2), (5, 1))[:letters], range(seed % 3, 6))
            for comp in (random_comp(chance, letters, 60), sums(letters, 7, (1, 2, 4)),
                         then(by_length(letters), by_ranks(letters, (0, 1, 2)[:letters]))):
                for word in timed(leaders, kind, comp, 12):
                    self.assertTrue(holds(kind, word))
                timed(least, kind, comp)
                timed(just_above, kind, comp, random_word(chance, letters, 120))


if __name__ == "__main__":
    unittest.main()
