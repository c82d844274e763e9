"""both, either, less and apart of point 5."""

import unittest

from sortedshelves.errors import ShelfError, TooGreat
from sortedshelves.machines import apart, both, either, is_of, less, smallest
from tests.reference import (
    chain, doubled, holds, naive_smallest, random_pairs, ring, shuffled, smallest_of_words, tailed_ring, timed,
    wheel, words_up_to,
)

RULES = (
    (both, lambda left, right: left and right),
    (either, lambda left, right: left or right),
    (less, lambda left, right: left and not right),
)


class Joined(unittest.TestCase):
    def test_against_words(self):
        checked = 0
        for one, other in random_pairs(41, 300):
            for call, rule in RULES:
                found = call(one, other)
                self.assertEqual(naive_smallest(found), found)
                if len(found[1]) <= 5:
                    checked += 1
                    self.assertEqual(
                        found, smallest_of_words(one[0], lambda word: rule(holds(one, word), holds(other, word)))
                    )
                else:
                    for word in words_up_to(one[0], 5):
                        self.assertEqual(holds(found, word), rule(holds(one, word), holds(other, word)))
        self.assertGreater(checked, 500)

    def test_with_itself_and_with_nothing(self):
        for one, _ in random_pairs(42, 60, states=6):
            nothing = (one[0], ((None,) * one[0],), (False,))
            every = (one[0], ((0,) * one[0],), (True,))
            self.assertEqual(both(one, one), smallest(one))
            self.assertEqual(either(one, doubled(one)), smallest(one))
            self.assertEqual(less(one, shuffled(one, 3)), nothing)
            self.assertEqual(both(one, nothing), nothing)
            self.assertEqual(both(one, every), smallest(one))
            self.assertEqual(either(nothing, one), smallest(one))
            self.assertEqual(either(one, every), every)
            self.assertEqual(less(one, nothing), smallest(one))
            self.assertEqual(less(every, less(every, one)), smallest(one))

    def test_a_result_of_400_states_but_not_of_401(self):
        sixteen, twenty_five = ring(16, {0}), ring(25, {0})
        self.assertEqual(both(sixteen, twenty_five), ring(400, {0}))
        self.assertEqual(either(sixteen, twenty_five), ring(400, set(range(0, 400, 16)) | set(range(0, 400, 25))))
        self.assertEqual(less(sixteen, twenty_five), ring(400, set(range(16, 400, 16))))
        # Where the empty word is another case than all multiples of 400, there is one state more.
        late, later = tailed_ring(1, 16, {16}), tailed_ring(1, 25, {25})
        for call, one in ((both, late), (either, late), (less, sixteen)):
            with self.assertRaises(TooGreat) as caught:
                call(one, later)
            self.assertIsInstance(caught.exception, ShelfError)
            self.assertIs(caught.exception.__class__, TooGreat)

    def test_finite_results_of_400_states_but_not_of_401(self):
        long = (2, tuple((s + 1, None) for s in range(399)) + ((None, None),), (False,) * 399 + (True,))
        short = (2, ((None, 1), (None, None)), (False, True))
        longer = (2, ((None, 1), (None, 2), (None, None)), (False, False, True))
        found = either(long, short)
        self.assertEqual(len(found[1]), 400)
        self.assertEqual([is_of(found, word) for word in ("a" * 399, "b", "a" * 398, "")], [True, True, False, False])
        self.assertEqual(less(found, short), long)
        with self.assertRaises(TooGreat):
            either(long, longer)

    def test_rings_that_meet_late(self):
        # Many thousands of pairs are gone through until both are at their ends.
        for call in (both, either, less):
            self.assertEqual(timed(call, ring(199, {0}, 3), ring(200, {0}, 3)), TooGreat)
            self.assertEqual(timed(call, ring(399, {398}, 2), ring(400, {399}, 2)), TooGreat)
        self.assertEqual(timed(both, ring(397, range(397)), ring(400, range(400))), ring(1, {0}))
        self.assertEqual(timed(less, ring(397, range(397)), ring(400, range(400))), (1, ((None,),), (False,)))
        tail = tailed_ring(399, 1, {399})
        self.assertEqual(timed(both, tail, ring(400, {399})), timed(smallest, ring(400, {399})))

    def test_great_machines_with_results_that_may_be_returned(self):
        moves, others = ((1, 1), (1, 3), (3, 2)), ((1, 1), (1, 2), (2, 5))
        one, other = wheel(400, moves, range(0, 400, 20)), wheel(399, others, range(0, 399, 19))
        small_one, small_other = wheel(20, moves, {0}), wheel(19, others, {0})
        for call, rule in RULES:
            found = timed(call, one, other)
            self.assertEqual(found, call(small_one, small_other))
            self.assertEqual(len(found[1]), 380)
            for word in words_up_to(3, 6):
                self.assertIs(is_of(found, word), rule(holds(one, word), holds(other, word)))
        every = wheel(399, others, range(399))
        self.assertEqual(timed(both, wheel(400, moves, {0}), every), smallest(wheel(400, moves, {0})))
        self.assertEqual(timed(either, wheel(400, moves, {0}), every), (3, ((0, 0, 0),), (True,)))
        self.assertEqual(timed(less, wheel(400, moves, {0}), every), (3, ((None, None, None),), (False,)))

    def test_somewhat_beyond(self):
        self.assertEqual(both(doubled(ring(300, {0})), ring(3, {0})), ring(300, {0}))

    def test_by_name(self):
        one, other = ring(2, {0}), ring(3, {0})
        self.assertEqual(both(one=one, other=other), ring(6, {0}))
        self.assertEqual(either(other=other, one=one), ring(6, {0, 2, 3, 4}))
        self.assertEqual(less(other=other, one=one), ring(6, {2, 4}))

    def test_kinds_of_values(self):
        for call in (both, either, less):
            letters, rows, ends = call(ring(2, {0}, 2), ring(3, {0}, 2))
            self.assertIs(letters.__class__, int)
            self.assertTrue(all(row.__class__ is tuple for row in (rows, ends) + rows))
            self.assertTrue(all(item.__class__ is int for row in rows for item in row))
            self.assertTrue(all(end.__class__ is bool for end in ends))


class Apart(unittest.TestCase):
    def test_against_words(self):
        some = 0
        for one, other in random_pairs(51, 500):
            unlike = [word for word in words_up_to(one[0], 4) if holds(one, word) != holds(other, word)]
            found = apart(one, other)
            self.assertEqual(found, apart(other, one))
            if unlike:
                self.assertEqual(found, unlike[0])
            elif found is not None:
                some += 1
                self.assertTrue(len(found) > 4 and holds(one, found) != holds(other, found))
                self.assertNotEqual(smallest(one), smallest(other))
            else:
                self.assertEqual(smallest(one), smallest(other))

    def test_the_same_words(self):
        for one, other in random_pairs(52, 100, states=8):
            self.assertIsNone(apart(one, smallest(one)))
            self.assertIsNone(apart(doubled(one), shuffled(one, 5)))
            self.assertIsNone(apart(either(one, other), either(other, one)))

    def test_the_empty_word(self):
        self.assertEqual(apart(ring(2, {0}), ring(2, {1})), "")
        nothing = (1, ((None,),), (False,))
        self.assertIsNone(apart(nothing, ring(5, set())))
        self.assertEqual(apart(nothing, chain(4)), "aaa")

    def test_the_first_one_in_order(self):
        # "c" is shorter than "ab", "b" is ahead of "c".
        every = (3, ((0, 0, 0),), (True,))
        self.assertEqual(apart(every, (3, ((1, 0, None), (0, None, 0)), (True, True))), "c")
        self.assertEqual(apart(every, (3, ((1, None, None), (0, None, 0)), (True, True))), "b")
        self.assertEqual(apart(every, (3, ((1, 0, 0), (0, None, 0)), (True, True))), "ab")

    def test_rings_that_differ_late(self):
        # The rings agree as long as two rings of 400 and 399 states can without being the same.
        agree = 797
        kept = list(range(agree))

        def top(at):
            while kept[at] != at:
                at = kept[at]
            return at

        for step in (400, 399):
            for at in range(agree - step):
                kept[top(at)] = top(at + step)
        one = ring(400, {at for at in range(400) if top(at) == top(0)}, 2)
        other = ring(399, {at for at in range(399) if top(at) == top(0)}, 2)
        found = timed(apart, one, other)
        self.assertEqual(found, "a" * agree)
        self.assertEqual(timed(apart, other, one), found)

    def test_great_machines(self):
        full, fuller = ring(400, range(400), 3), ring(399, range(399), 3)
        self.assertIsNone(timed(apart, full, fuller))
        hole = ring(400, range(399), 3)
        self.assertEqual(timed(apart, hole, fuller), "a" * 399)
        self.assertEqual(timed(apart, fuller, hole), "a" * 399)
        moves = ((1, 1), (1, 3), (3, 2))
        self.assertIsNone(timed(apart, wheel(400, moves, range(0, 400, 20)), wheel(380, moves, range(0, 380, 20))))

    def test_by_name(self):
        self.assertEqual(apart(one=ring(2, {0}), other=ring(3, {0})), "aa")


if __name__ == "__main__":
    unittest.main()
