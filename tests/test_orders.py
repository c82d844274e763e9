"""self_fault, turn_fault, chain_fault, first_fault, is_order, unlike, tie (points 12 and 13)."""

import random
import unittest

from sortedshelves.comps import by_length, by_ranks, tells, then, turned
from sortedshelves.orders import (
    chain_fault, first_fault, is_order, order_paper, self_fault, tie, turn_fault, unlike,
)
from tests.naive import (
    all_words, first_tuple, longest, naive_chain_fault, naive_paper, naive_self_fault, naive_tie, naive_turn_fault, naive_unlike,
    row_ring, some_comp, some_kind, sums, tuples_of,
)
from tests.reference import chain, holds, random_comp, ring, timed, wheel, words_of

EVERY = all_words(2)
FIRST = (lambda kind, comp: self_fault(kind, comp), turn_fault, chain_fault)


def trimmed_kind(kind):
    """The kind without the states that lead to no end; what is left has the same words."""
    letters, rows, ends = kind
    leads = {state for state in range(len(rows)) if ends[state]}
    for _ in rows:
        leads |= {state for state in range(len(rows)) if any(target in leads for target in rows[state])}
    return (letters, tuple(tuple(t if t in leads else None for t in row) for row in rows), ends)


def rarely_faulty(chance, letters):
    """An order, or a comparison that mostly tells 0, with one row or verdict changed."""
    if chance.random() < 0.5:
        comp = sums(letters, chance.randint(2, 4 if letters < 3 else 2), [chance.randint(0, 5) for _ in range(3)])
    else:
        comp = random_comp(chance, letters, chance.randint(2, 9))
        comp = (letters, comp[1], tuple(0 if chance.random() < 0.85 else verdict for verdict in comp[2]))
    rows, verdicts = [list(row) for row in comp[1]], list(comp[2])
    if chance.random() < 0.5:
        chance.choice(rows)[chance.randrange(len(rows[0]))] = chance.randrange(len(rows))
    else:
        verdicts[chance.randrange(len(verdicts))] = chance.choice((-1, 0, 1))
    return (letters, tuple(map(tuple, rows)), tuple(verdicts))


class Against(unittest.TestCase):
    def told(self, found, wanted, length, what):
        if wanted is not None:
            self.assertEqual(found, wanted, what)
        elif found is not None:
            self.assertGreater(longest(found), length, what)

    def test_faults_against_all_words(self):
        chance = random.Random(931)
        lengths = {1: (9, 6, 5), 2: (6, 4, 3), 3: (4, 2, 2)}
        for _ in range(600):
            letters = chance.choice((1, 2, 2, 3))
            kind, comp = some_kind(chance, letters), some_comp(chance, letters)
            word_length, pair_length, triple_length = lengths[letters]
            words = words_of(kind, word_length)
            pairs = tuples_of([word for word in words if len(word) <= pair_length], 2)
            few = [word for word in words if len(word) <= triple_length]
            told = (self_fault(kind, comp), turn_fault(kind, comp), chain_fault(kind, comp))
            self.told(told[0], naive_self_fault(words, comp), word_length, (kind, comp))
            self.told(told[1], naive_turn_fault(pairs, comp), pair_length, (kind, comp))
            self.told(told[2], naive_chain_fault(few, comp), triple_length, (kind, comp))
            self.assertEqual(first_fault(kind, comp), next((held for held in told if held is not None), None))
            self.assertIs(is_order(kind, comp), told == (None, None, None))
            self.check_faults(kind, comp, told)

    def check_faults(self, kind, comp, told):
        word, pair, triple = told
        if word is not None:
            self.assertTrue(holds(kind, word) and tells(comp, word, word) != 0)
        if pair is not None:
            self.assertTrue(all(holds(kind, held) for held in pair))
            self.assertNotEqual(tells(comp, *pair), -tells(comp, *pair[::-1]))
        if triple is not None:
            one, two, three = triple
            self.assertTrue(all(holds(kind, held) for held in triple))
            self.assertTrue(tells(comp, one, two) < 1 and tells(comp, two, three) < 1 and tells(comp, one, three) == 1)

    def test_of_whatever_length(self):
        chance = random.Random(935)
        late = 0
        for _ in range(100):
            letters = chance.choice((1, 1, 2, 2, 3))
            kind, other = some_kind(chance, letters), some_comp(chance, letters)
            if letters == 1:
                kind = ring(chance.randint(4, 6), (chance.randrange(4),))
            comp = rarely_faulty(chance, letters)
            for found, comps, looks, many, wanted in (
                    (turn_fault(kind, comp), [comp] * 2, ((0, 1), (1, 0)), 2, lambda told, alike: told[0] != -told[1]),
                    (unlike(kind, comp, other), [comp, other], ((0, 1), (0, 1)), 2, lambda told, alike: told[0] != told[1]),
                    (tie(kind, comp), [comp], ((0, 1),), 2, lambda told, alike: told[0] == 0 and not alike),
                    (chain_fault(kind, comp), [comp] * 3, ((0, 1), (1, 2), (0, 2)), 3,
                     lambda told, alike: told[0] < 1 and told[1] < 1 and told[2] == 1)):
                if many == 2 or len(comp[1]) < 7 or letters == 1:
                    self.assertEqual(found, first_tuple(kind, comps, looks, many, wanted), (kind, comp, other))
                    late += found is not None and longest(found) > 4
        self.assertGreater(late, 10)

    def test_none_just_where_a_paper_is(self):
        chance = random.Random(932)
        orders = 0
        for _ in range(400):
            letters = chance.choice((1, 2, 3))
            kind, comp = trimmed_kind(some_kind(chance, letters, 4)), some_comp(chance, letters, 4)
            if not any(kind[2]):
                continue
            self.assertIs(is_order(kind, comp), naive_paper(kind, comp) is not None, (kind, comp))
            orders += is_order(kind, comp)
        self.assertGreater(orders, 100)

    def test_unlike_and_tie(self):
        chance = random.Random(933)
        lengths = {1: 6, 2: 4, 3: 2}
        for _ in range(600):
            letters = chance.choice((1, 2, 2, 3))
            kind, one, other = some_kind(chance, letters), some_comp(chance, letters), some_comp(chance, letters)
            pairs = tuples_of(words_of(kind, lengths[letters]), 2)
            found = unlike(kind, one, other)
            self.told(found, naive_unlike(pairs, one, other), lengths[letters], (kind, one, other))
            if found is not None:
                self.assertTrue(all(holds(kind, word) for word in found))
                self.assertNotEqual(tells(one, *found), tells(other, *found))
            found = tie(kind, one)
            self.told(found, naive_tie(pairs, one), lengths[letters], (kind, one))
            if found is not None:
                self.assertTrue(all(holds(kind, word) for word in found))
                self.assertTrue(tells(one, *found) == 0 and found[0] != found[1])
            self.assertIsNone(unlike(kind, one, one))


class Edges(unittest.TestCase):
    def test_kinds_of_no_word_and_of_one(self):
        wrong = (2, ((0,) * 8,), (1,))
        nothing, empty = (2, ((0, 0),), (False,)), (2, ((None, None),), (True,))
        for held in (nothing, (2, ((1, 1), (0, None), (2, 2)), (False, False, True))):
            self.assertTrue(is_order(held, wrong))
            self.assertEqual([fault(held, wrong) for fault in FIRST] + [tie(held, wrong), unlike(held, wrong, turned(wrong))],
                             [None] * 5)
        self.assertEqual([fault(empty, wrong) for fault in FIRST], ["", ("", ""), None])
        self.assertEqual(first_fault(empty, wrong), "")
        self.assertEqual(unlike(empty, wrong, turned(wrong)), ("", ""))
        self.assertIsNone(tie(empty, (2, ((0,) * 8,), (0,))))
        one = (2, ((1, None), (None, None)), (False, True))
        self.assertEqual([fault(one, wrong) for fault in FIRST], ["a", ("a", "a"), None])
        self.assertEqual([fault(one, (2, ((0,) * 8,), (-1,))) for fault in FIRST], ["a", ("a", "a"), None])

    def test_orders(self):
        for letters in (1, 2, 3):
            for kind in (all_words(letters), chain(6, letters), wheel(6, ((1, 1), (5, 2), (1, 3))[:letters], (0, 2))):
                for comp in (by_length(letters), by_ranks(letters, (3, -1, 3)[:letters]), sums(letters, 5, (1, 2, 3)),
                             turned(then(by_length(letters), by_ranks(letters, (0, 1, 2)[:letters])))):
                    self.assertTrue(is_order(kind, comp))
                    self.assertIsNone(first_fault(kind, comp))

    def test_first_by_the_longest_word_and_then_in_pythons_order(self):
        # Of "b" and itself, and of a beginning and what goes on with "a", the contrary is not told.
        comp = (2, ((0, 1, 1, 2, 2, 2, 1, 1), (1,) * 8, (2,) * 8), (0, -1, 1))
        self.assertEqual(self_fault(EVERY, comp), "b")
        self.assertEqual(turn_fault(EVERY, comp), ("", "a"))
        self.assertEqual(turn_fault(EVERY, by_ranks(2, (0, 1))[:2] + ((1, -1, 1),)), ("", ""))
        comp = (2, ((0, 1, 1, 2, 2, 2, 2, 1), (1,) * 8, (2,) * 8), (0, -1, 1))
        self.assertEqual(turn_fault(EVERY, comp), naive_turn_fault(tuples_of(words_of(EVERY, 2), 2), comp))

    def test_a_pair_of_unlike_lengths(self):
        comp = (1, ((0, 1, 0), (0, 1, 0)), (0, 1))
        self.assertEqual(turn_fault(all_words(1), comp), ("", "a"))
        self.assertEqual(turn_fault(ring(3, (2,)), comp), ("aa", "aaaaa"))
        self.assertIsNone(turn_fault(chain(4), comp))

    def test_chains(self):
        # The one that is longer by one letter is less, but not the one that is longer by more.
        comp = (1, ((0, 1, 2), (1, 3, 1), (2, 2, 4), (3, 3, 3), (4, 4, 4)), (0, -1, 1, 1, -1))
        self.assertEqual(chain_fault(all_words(1), comp), ("", "aa", "a"))
        self.assertEqual(first_fault(all_words(1), comp), ("", "aa", "a"))
        self.assertIsNone(chain_fault(ring(2, (1,)), (1, ((0, 1, 2), (2, 1, 1), (1, 2, 2)), (0, -1, 1))))
        # Some of the three may be the same word.
        self.assertEqual(chain_fault(EVERY, (2, ((0, 1, 1, 1, 0, 1, 1, 1), (1,) * 8), (1, 0))), ("", "a", ""))
        self.assertEqual(chain_fault((2, ((1, None), (None, None)), (True, True)), (2, ((1, 0, 0) * 2 + (0, 0), (1,) * 8),
                                                                                   (-1, 1))), ("a", "", "a"))

    def test_faults_on_a_part_alone(self):
        odd = (1, ((0, 1, 1), (0, 0, 0)), (0, 1))
        evens = (1, ((1,), (0,)), (True, False))
        self.assertTrue(is_order(evens, odd))
        self.assertEqual(first_fault(all_words(1), odd), ("", "a"))
        # Beginnings of words that are of the kind are not asked.
        kind = (2, ((None, 1), (1, None)), (False, True))
        comp = (2, ((1, 0, 0, 0, 0, 0, 0, 0), (1,) * 8), (0, 1))
        self.assertEqual(self_fault(EVERY, comp), "a")
        self.assertEqual(self_fault(kind, comp), "ba")
        self.assertIsNone(self_fault((2, ((None, 0),), (True,)), comp))

    def test_ties(self):
        self.assertEqual(tie(EVERY, by_length(2)), ("a", "b"))
        self.assertIsNone(tie(EVERY, by_ranks(2, (1, 0))))
        self.assertEqual(tie(EVERY, by_ranks(2, (1, 1))), ("a", "b"))
        # Also of words of unlike lengths, and only one way round.
        self.assertEqual(tie(all_words(1), (1, ((0, 0, 1), (1, 1, 1)), (0, 1))), ("a", ""))
        self.assertEqual(tie(all_words(1), (1, ((0, 1, 0), (1, 1, 1)), (0, 1))), ("", "a"))
        self.assertEqual(unlike(all_words(1), by_length(1), (1, ((0, 2, 1), (1, 1, 1), (2, 2, 2)), (0, -1, -1))), ("a", ""))

    def test_unlike_of_a_word_and_itself(self):
        one, other = by_length(2), (2, ((0, 0, 2, 0, 3, 2, 1, 1), (1,) * 8, (2,) * 8, (3,) * 8), (0, -1, 1, 1))
        self.assertEqual(unlike(EVERY, one, other), ("b", "b"))
        self.assertEqual(unlike((2, ((0, None),), (True,)), one, other),
                         naive_unlike(tuples_of(["", "a", "aa"], 2), one, other))


class Late(unittest.TestCase):
    def test_rings_of_unlike_lengths(self):
        # The word is one less than a multiple of 5, and 31 more than one of 59.
        kind, comp = ring(5, (4,)), row_ring(59, 31)
        wanted = "a" * next(n for n in range(999) if n % 5 == 4 and n % 59 == 31)
        self.assertEqual(self_fault(kind, comp), wanted)
        self.assertEqual(turn_fault(kind, comp), (wanted, wanted))
        self.assertEqual(first_fault(kind, comp), wanted)
        self.assertEqual(len(wanted), 149)
        self.assertEqual(self_fault(kind, row_ring(59, 53)), "a" * 289)
        self.assertEqual(turn_fault(ring(6, (5,)), row_ring(59, 57)), ("a" * 293,) * 2)
        self.assertEqual(tie(kind, comp), ("a" * 4, "a" * 9))
        self.assertEqual(unlike(kind, comp, row_ring(59, 30)), (("a" * next(
            n for n in range(999) if n % 5 == 4 and n % 59 in (30, 31)),) * 2))

    def test_never_where_rings_do_not_meet(self):
        kind, comp = ring(6, (4,)), row_ring(60, 31)
        self.assertEqual([self_fault(kind, comp), turn_fault(kind, comp), chain_fault(kind, comp)], [None] * 3)
        self.assertEqual(self_fault(kind, row_ring(60, 34)), "a" * 34)

    def test_late_chains(self):
        # Equal words of one length alone are told 1; a shorter one between is like both.
        kind, comp = ring(5, (4,)), row_ring(29, 17)
        word = "a" * next(n for n in range(999) if n % 5 == 4 and n % 29 == 17)
        self.assertEqual(chain_fault(kind, comp), (word, "aaaa", word))
        self.assertGreater(len(word), 100)

    def test_a_late_pair_of_unlike_words(self):
        # Which letters are unlike is told 1 both ways, if that comes behind 46 letters, or so many and 58s.
        rows = tuple(((row + 1) % 58, 59 if row == 46 else 58, 58) + (59 if row == 46 else 58, (row + 1) % 58, 58, 58, 58)
                     for row in range(58)) + ((58,) * 8, (59,) * 8)
        comp, kind = (2, rows, (0,) * 59 + (1,)), wheel(5, ((1, 1), (1, 1)), (2,))
        self.assertEqual(turn_fault(kind, comp), ("a" * 47, "a" * 46 + "b"))
        self.assertEqual(turn_fault(ring(6, (0,), 2), comp), ("a" * 48, "a" * 46 + "ba"))
        self.assertIsNone(turn_fault((2, ((0, None),), (True,)), comp))
        self.assertIsNone(self_fault(kind, comp))


class Great(unittest.TestCase):
    def test_orders_of_many_rows(self):
        for letters in (2, 3):
            kind, comp = wheel(6, ((1, 1), (1, 2), (5, 1))[:letters], (0, 2, 3)), sums(letters, 7, (1, 2, 4))
            self.assertIsNone(timed(first_fault, kind, comp))
            self.assertIsNotNone(timed(order_paper, kind, comp))
            self.assertIsNone(timed(unlike, kind, comp, turned(turned(comp))))
            self.assertIsNotNone(timed(tie, kind, comp))

    def test_any_comparisons_of_many_rows(self):
        chance = random.Random(934)
        for seed in range(6):
            letters = chance.choice((2, 3))
            kind = wheel(6, ((1, 1), (1, 2), (5, 1))[:letters], range(seed % 3, 6))
            one, other = random_comp(chance, letters, 60), random_comp(chance, letters, 60)
            for call in (*FIRST, tie):
                self.check(call.__name__, timed(call, kind, one), kind)
            self.check("unlike", timed(unlike, kind, one, other), kind)
            self.assertIsNone(timed(unlike, kind, one, one))

    def check(self, name, found, kind):
        for word in [found] if isinstance(found, str) else found or ():
            self.assertTrue(holds(kind, word), name)


if __name__ == "__main__":
    unittest.main()
