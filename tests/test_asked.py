"""asked, same (point 15)."""

import random
import unittest

from sortedshelves.comps import by_length, by_ranks, then
from sortedshelves.errors import TooGreat
from sortedshelves.machines import apart, both, either, less
from sortedshelves.queries import answers, asked, query_error, same
from tests.naive import all_words, first_of, naive_answers, random_query, some_comp, some_kind
from tests.reference import (
    chain, changed, holds, naive_smallest, random_comp, random_machine, random_step, random_word, timed, wheel,
    words_of, words_up_to,
)

EVERY = all_words(2)
PLAIN = by_ranks(2, (0, 1))
FOLD = ("pass", ((0, 0),), (("b", "a"),))
NOTHING = (2, ((None, None),), (False,))
LENGTHS = {1: 24, 2: 7, 3: 4}


class Asked(unittest.TestCase):
    def test_against_answers_word_by_word(self):
        chance = random.Random(981)
        for _ in range(900):
            letters = chance.choice((1, 2, 2, 3))
            kind, comp = some_kind(chance, letters), some_comp(chance, letters)
            query = random_query(chance, letters, chance.randint(1, 4))
            found = timed(asked, kind, comp, query)
            if found is TooGreat:
                continue
            self.assertEqual(naive_smallest(found), found)
            for word in words_up_to(letters, LENGTHS[letters]):
                wanted = holds(kind, word) and naive_answers(comp, query, word)
                self.assertIs(holds(found, word), wanted, (kind, comp, query, word))

    def test_as_sets_do(self):
        chance = random.Random(982)
        for _ in range(200):
            letters = chance.choice((1, 2, 3))
            kind, comp = some_kind(chance, letters), some_comp(chance, letters)
            one, other = [random_query(chance, letters, 2) for _ in range(2)]
            first, second = timed(asked, kind, comp, one), timed(asked, kind, comp, other)
            if TooGreat in (first, second):
                continue
            self.assertEqual(asked(kind, comp, ("all", (one, other))), both(first, second))
            self.assertEqual(asked(kind, comp, ("some", (one, other))), either(first, second))
            self.assertEqual(asked(kind, comp, ("all", (one, ("not", other)))), less(first, second))
            self.assertEqual(asked(kind, comp, ("not", one)), less(asked(kind, comp, ("all", ())), first))
            self.assertEqual(same(kind, comp, one, other), apart(first, second))

    def test_each_form(self):
        self.assertEqual(asked(EVERY, PLAIN, ("is", "ba")), (2, ((None, 1), (2, None), (None, None)), (False, False, True)))
        self.assertEqual(asked(EVERY, PLAIN, ("is", "")), (2, ((None, None),), (True,)))
        self.assertEqual(asked(EVERY, PLAIN, ("has", "ab")), (2, ((1, 0), (1, 2), (2, 2)), (False, False, True)))
        self.assertEqual(asked(EVERY, PLAIN, ("of", chain(3, 2))), chain(3, 2))
        self.assertEqual(asked(EVERY, PLAIN, ("below", "b")), (2, ((1, None), (1, 1)), (True, True)))
        self.assertEqual(asked(EVERY, by_length(2), ("like", "ab")), chain(3, 2))
        self.assertEqual(asked(EVERY, by_length(2), ("above", "a")), (2, ((1, 1), (2, 2), (2, 2)), (False, False, True)))
        self.assertEqual(asked(EVERY, PLAIN, ("not", ("has", "b"))), (2, ((0, None),), (True,)))
        self.assertEqual(asked(EVERY, PLAIN, ("seen", (("stop", "b"),), ("is", "a"))),
                         (2, ((1, None), (None, 2), (2, 2)), (False, True, True)))

    def test_all_and_some_of_none(self):
        kind = (2, ((0, 1), (0, None)), (True, True))
        for query, wanted in ((("all", ()), kind), (("some", ()), NOTHING), (("not", ("all", ())), NOTHING),
                              (("not", ("some", ())), kind), (("all", (("some", ()), ("is", "a"))), NOTHING),
                              (("some", (("all", ()), ("is", "a"))), kind), (("seen", (FOLD,), ("all", ())), kind)):
            self.assertEqual(asked(kind, PLAIN, query), wanted)
        self.assertEqual(asked((2, ((0, 0),), (False,)), PLAIN, ("all", ())), NOTHING)

    def test_pieces_that_overlap(self):
        for piece in ("aa", "aba", "abab", "aaaa", "aaba", "bbab"):
            found = asked(EVERY, PLAIN, ("has", piece))
            for word in words_up_to(2, 9):
                self.assertIs(holds(found, word), piece in word)
            self.assertEqual(len(found[1]), len(piece) + 1)

    def test_seen_within_seen(self):
        swap = ("swap", (("ab", "ba"), ("bb", "aa")))
        query = ("seen", (swap, FOLD), ("not", ("seen", (("cut", (1, 2), 5), swap), ("all", (("has", "aab"), ("below", "ba"))))))
        found = asked(EVERY, PLAIN, query)
        self.assertEqual([word for word in words_up_to(2, 10) if holds(found, word)],
                         [word for word in words_up_to(2, 10) if naive_answers(PLAIN, query, word)])

    def test_too_great(self):
        # At most so many "a" and so many "b" are looked at: one state for each two numbers.
        def cuts(one, other):
            return ("seen", (("cut", (1, 0), one), ("cut", (0, 1), other)), ("has", "bbbb"))

        self.assertIs(timed(asked, EVERY, PLAIN, cuts(30, 30)), TooGreat)
        self.assertIs(timed(asked, EVERY, PLAIN, ("not", cuts(30, 30))), TooGreat)
        self.assertIsNone(timed(same, EVERY, PLAIN, cuts(30, 30), cuts(30, 30)))
        self.assertIsNone(timed(same, EVERY, PLAIN, cuts(30, 30), ("all", (cuts(30, 30), ("all", ())))))
        self.assertEqual(timed(same, EVERY, PLAIN, cuts(30, 30), cuts(29, 30)), "a" * 30 + "bbbb")
        self.assertEqual(asked(chain(6, 2), PLAIN, cuts(30, 30)), asked(chain(6, 2), PLAIN, ("has", "bbbb")))

    def test_at_the_bound(self):
        def line(letters, one, other):
            return (("cut", (1, 0, 0)[:letters], one), ("cut", (0, 1, 0)[:letters], other))

        behind = (3, ((None, None, 1), (1, 1, None)), (False, True))
        for one, other, states in ((17, 27, 400), (20, 11, 400), (17, 14, 399)):
            found = asked(EVERY, PLAIN, ("seen", line(2, one, other), ("has", "bbb")))
            self.assertEqual(len(found[1]), states)
            self.assertEqual(naive_smallest(found), found)
            # Behind one "c" the same: one state more.
            found = timed(asked, behind, by_length(3), ("seen", line(3, one, other), ("has", "bbb")))
            self.assertEqual(found is TooGreat, states == 400)


class Same(unittest.TestCase):
    def test_against_answers_word_by_word(self):
        chance = random.Random(983)
        told = {True: 0, False: 0}
        for _ in range(900):
            letters = chance.choice((1, 2, 2, 3))
            kind, comp = some_kind(chance, letters), some_comp(chance, letters)
            one = random_query(chance, letters, chance.randint(1, 4))
            other = changed(chance, one) if chance.random() < 0.5 else random_query(chance, letters, 3)
            if query_error(letters, other) is not None:
                continue
            found = same(kind, comp, one, other)
            wanted = first_of(words_of(kind, LENGTHS[letters]), lambda word: naive_answers(comp, one, word)
                              is not naive_answers(comp, other, word))
            told[found is None] += 1
            if wanted is not None:
                self.assertEqual(found, wanted, (kind, comp, one, other))
            elif found is not None:
                self.assertGreater(len(found), LENGTHS[letters])
                self.assertTrue(holds(kind, found))
                self.assertNotEqual(answers(comp, one, found), answers(comp, other, found))
            self.assertEqual(same(kind, comp, other, one), found)
        self.assertGreater(min(told.values()), 100)

    def test_queries_that_ask_the_same(self):
        short = then(by_length(2), PLAIN)
        for one, other in ((("not", ("below", "ab")), ("some", (("above", "ab"), ("like", "ab")))),
                           (("like", "ab"), ("is", "ab")), (("all", ()), ("not", ("some", ()))),
                           (("has", "a"), ("not", ("of", (2, ((None, 0),), (True,))))),
                           (("below", ""), ("some", ())), (("seen", (FOLD,), ("has", "ab")), ("has", "ba"))):
            self.assertIsNone(same(EVERY, short, one, other))
        self.assertEqual(same(EVERY, PLAIN, ("not", ("below", "a")), ("above", "a")), "a")
        self.assertIsNone(same(NOTHING, PLAIN, ("all", ()), ("some", ())))
        self.assertEqual(same((2, ((1, 1), (None, None)), (False, True)), PLAIN, ("all", ()), ("some", ())), "a")

    def test_what_one_query_alone_has_decided(self):
        behind_b = (2, ((None, 1), (1, 1)), (False, True))
        self.assertEqual(same(behind_b, PLAIN, ("has", "ab"), ("has", "aa")), "baa")
        self.assertEqual(same(behind_b, PLAIN, ("is", "a"), ("has", "ab")), "bab")
        self.assertEqual(same(behind_b, PLAIN, ("has", "ab"), ("is", "a")), "bab")
        self.assertEqual(same(behind_b, PLAIN, ("not", ("is", "a")), ("has", "a")), "b")
        self.assertEqual(same(behind_b, PLAIN, ("has", "b"), ("has", "ba")), "b")
        self.assertEqual(same(behind_b, PLAIN, ("not", ("is", "a")), ("not", ("has", "ab"))), "bab")
        self.assertIsNone(same(behind_b, PLAIN, ("is", "a"), ("is", "ab")))

    def test_late_words(self):
        count = ("cut", (1, 0), 30)
        self.assertEqual(same(EVERY, PLAIN, ("seen", (count,), ("has", "b")), ("has", "b")), "a" * 31 + "b")
        odd = (2, ((1, 1), (0, 0)), (False, True))
        self.assertEqual(same(odd, PLAIN, ("seen", (count,), ("has", "b")), ("has", "b")), "a" * 32 + "b")
        self.assertEqual(same(EVERY, by_length(2), ("below", "b" * 20), ("all", ())), "a" * 20)
        self.assertIsNone(same(chain(6, 2), by_length(2), ("below", "b" * 20), ("all", ())))


class Great(unittest.TestCase):
    def test_great_sizes(self):
        chance = random.Random(984)
        for _ in range(25):
            letters = chance.choice((2, 3))
            kind = wheel(6, ((1, 1), (1, 2), (5, 1))[:letters], (0, 2, 3))
            comp = random_comp(chance, letters, 60)
            line = tuple(random_step(chance, letters) for _ in range(3))
            names = [chance.choice(("below", "above", "like")) for _ in range(2)]
            queries = [(name, random_word(chance, letters, 20)) for name in names]
            queries.append(("of", random_machine(chance, 6, letters, 0.05, 0.5)))
            for query in (queries[0], ("all", tuple(queries[1:])), ("seen", line, queries[0]), ("not", ("seen", line, (
                    "some", (("has", random_word(chance, letters, 4)), queries[2]))))):
                timed(asked, kind, comp, query)
                timed(same, kind, comp, query, ("not", ("not", query)))
                timed(same, kind, comp, query, queries[1])


if __name__ == "__main__":
    unittest.main()
