"""worth, greatest and above of point 6."""

import copy
import random
import unittest
import unittest.mock

from sortedshelves import counted
from sortedshelves.forms import above, greatest, heights, worth
from tests.reference import (
    chain, doubled, holds, knotted_machine, naive_above, naive_greatest, random_form, random_machine, ring, shuffled,
    tailed_ring, timed, value_of, wheel, words_up_to,
)

KIND = (2, ((0, 1), (0, None)), (True, True))
NOTHING = (2, ((0, 1), (1, None)), (False, False))
EVERY = (3, ((0, 0, 0),), (True,))
# A ring of 400 states that is worth 1, by the letter "b" of state 0; the other letters are worth nothing.
SLOW = (2, ((None, 1),) + tuple(((s + 1) % 400, None) for s in range(1, 400)), (True,) + (False,) * 399)


def cases(seed, many):
    chance = random.Random(seed)
    for _ in range(many):
        letters, states = chance.randint(1, 3), chance.randint(1, 5)
        machine = random_machine(chance, states, letters, chance.random() * 0.7, chance.random())
        yield chance, machine, random_form(chance, letters)


def knotted_cases(seed, many):
    """Machines with several rings, of which some lead to others."""
    chance = random.Random(seed)
    for _ in range(many):
        letters = chance.randint(2, 3)
        form = tuple(chance.randint(-3, 2) for _ in range(letters))
        yield chance, knotted_machine(chance, letters, chance.randint(2, 4)), form


class Worth(unittest.TestCase):
    def test_words(self):
        for word in words_up_to(3, 4):
            self.assertEqual(worth((5, -7, 99), word), value_of((5, -7, 99), word))

    def test_the_edges(self):
        self.assertEqual(worth((99,), ""), 0)
        self.assertEqual(worth((-99, 99), "ab"), 0)
        self.assertEqual(worth((0, 0, 0), "abc" * 1000), 0)
        self.assertEqual(worth((-99, 1, 2), "a" * 100000 + "cb"), -9900000 + 3)
        self.assertIs(worth((1, 2), "").__class__, int)

    def test_the_count_is_the_worth_in_a_unit(self):
        self.assertEqual(worth((9, 0, 1), "aabbbcc"), 20)

    def test_by_name(self):
        self.assertEqual(worth(form=(2, -3), word="aab"), 1)


class Greatest(unittest.TestCase):
    def rings(self, machine, form, found, length=400):
        """Whether what is found is as a ring has to be."""
        self.assertEqual((found[0], len(found)), ("ring", 4))
        _, ahead, circle, behind = found
        self.assertGreater(value_of(form, circle), 0)
        self.assertNotEqual(circle, "")
        self.assertLessEqual(max(len(ahead), len(circle), len(behind)), length)
        for times in (0, 1, 2, 3, 10):
            self.assertIs(holds(machine, ahead + times * circle + behind), True)

    def test_small_machines(self):
        told = {"none": 0, "most": 0, "ring": 0}
        for _, machine, form in cases(101, 1500):
            found, wanted = greatest(machine, form), naive_greatest(machine, form)
            told[found[0]] += 1
            if wanted == ("ring",):
                self.rings(machine, form, found)
            else:
                self.assertEqual(found, wanted, (machine, form))
            self.assertEqual(greatest(machine, form), found)
        self.assertGreater(min(told.values()), 150)

    def test_rings_that_lead_to_rings(self):
        told = {"none": 0, "most": 0, "ring": 0}
        for _, machine, form in knotted_cases(107, 1500):
            found = greatest(machine, form)
            told[found[0]] += 1
            wanted = naive_greatest(machine, form)
            if wanted == ("ring",):
                self.rings(machine, form, found)
            else:
                self.assertEqual(found, wanted, (machine, form))
        self.assertGreater(min(told.values()), 150)
        # The ring of the states 0 and 1 loses, but one that gains can be come to from it.
        machine = (2, ((1, None), (0, 2), (None, 2)), (False, False, True))
        self.rings(machine, (-1, 5), greatest(machine, (-1, 5)))

    def test_no_word(self):
        for form in ((0, 0), (1, 1), (99, -99)):
            self.assertEqual(greatest(NOTHING, form), ("none",))
        self.assertEqual(greatest((1, ((None,),), (False,)), (5,)), ("none",))
        self.assertEqual(greatest((1, ((1,), (None,), (2,)), (False, False, True)), (5,)), ("none",))
        self.assertEqual(greatest(ring(400, set(), 3), (99, 99, 99)), ("none",))

    def test_the_empty_word_alone(self):
        self.assertEqual(greatest((2, ((None, None),), (True,)), (9, 9)), ("most", 0, ""))
        self.assertEqual(greatest(EVERY, (0, 0, 0)), ("most", 0, ""))
        self.assertEqual(greatest(EVERY, (-1, -99, 0)), ("most", 0, ""))

    def test_the_first_word_of_the_greatest_worth(self):
        # "aa" and "b" are worth as much: the shorter one is ahead.
        short = (2, ((1, 2), (2, None), (None, None)), (False, False, True))
        self.assertEqual(greatest(short, (1, 2)), ("most", 2, "b"))
        # "ab" and "ba" have one length.
        self.assertEqual(greatest((2, ((1, 2), (None, 3), (3, None), (None, None)), (False,) * 3 + (True,)), (1, 1)),
                         ("most", 2, "ab"))
        # A ring worth nothing makes words longer, not better.
        long = (2, ((1, None), (1, 2), (None, None)), (False, False, True))
        self.assertEqual(greatest(long, (0, 3)), ("most", 3, "ab"))
        # The way to the greatest worth goes down first.
        down = (2, ((1, 2), (None, 2), (None, None)), (True, True, True))
        self.assertEqual(greatest(down, (-5, 9)), ("most", 9, "b"))
        down = (2, ((1, None), (None, 2), (None, None)), (True, True, True))
        self.assertEqual(greatest(down, (-5, 9)), ("most", 4, "ab"))

    def test_negative_worths(self):
        self.assertEqual(greatest(chain(5, 2), (-3, -4)), ("most", -12, "aaaa"))
        self.assertEqual(greatest(ring(400, {399}), (-99,)), ("most", -99 * 399, "a" * 399))

    def test_rings(self):
        self.rings(KIND, (1, -9), greatest(KIND, (1, -9)))
        self.rings(KIND, (-1, 2), greatest(KIND, (-1, 2)))
        self.rings(SLOW, (0, 1), greatest(SLOW, (0, 1)))
        self.rings(ring(1, {0}), (1,), greatest(ring(1, {0}), (1,)))
        for seed in range(5):
            machine = shuffled(ring(400, {200}), seed)
            self.rings(machine, (1,), greatest(machine, (1,)))
        # 200 letters ahead, a ring of one letter, 199 behind.
        long = (2, tuple((s + 1, 200 if s == 200 else None) for s in range(399)) + ((None, None),),
                (False,) * 399 + (True,))
        found = greatest(long, (-99, 1))
        self.rings(long, (-99, 1), found)
        self.assertEqual(set(found[2]), {"b"})

    def test_rings_that_are_none(self):
        # Worth nothing, or less.
        self.assertEqual(greatest(ring(3, {1}), (0,)), ("most", 0, "a"))
        self.assertEqual(greatest(ring(3, {1}), (-1,)), ("most", -1, "a"))
        self.assertEqual(greatest((2, ((None, 1), (2, None), (0, None)), (True,) * 3), (-1, 2)), ("most", 2, "b"))
        # It leads to no end.
        lost = (2, ((1, 2), (1, None), (None, None)), (False, False, True))
        self.assertEqual(greatest(lost, (9, 1)), ("most", 1, "b"))
        self.assertEqual(greatest(lost[:2] + ((False, False, False),), (9, 1)), ("none",))
        # No word comes to it.
        self.assertEqual(greatest((1, ((1,), (None,), (2,)), (True,) * 3), (9,)), ("most", 9, "a"))
        self.assertEqual(greatest((1, ((1,), (None,), (0,)), (True, False, True)), (9,)), ("most", 0, ""))

    def test_states_doubled_and_in_another_order(self):
        for chance, machine, form in cases(102, 200):
            found = greatest(machine, form)
            for other in (doubled(machine), shuffled(machine, chance.random())):
                if found[0] == "ring":
                    self.rings(other, form, greatest(other, form))
                else:
                    self.assertEqual(greatest(other, form), found)

    def test_400_states(self):
        for seed in range(4):
            machine = shuffled(wheel(400, ((1, 1), (1, 3), (3, 2)), {0}), seed)
            self.rings(machine, (-99, 1, -98), timed(greatest, machine, (-99, 1, -98)))
            self.rings(machine, (99, 99, 99), timed(greatest, machine, (99, 99, 99)))
            self.assertEqual(timed(greatest, machine, (-1, -99, -99)), ("most", 0, ""))
        late = shuffled(wheel(400, ((1, 1), (1, 3), (3, 2)), {399}), 5)
        kind, number, word = timed(greatest, late, (-1, -1, -1))
        self.assertEqual((kind, number), ("most", -len(word)))
        self.assertEqual(timed(above, late, (0, 0, 0), -1), word)
        self.assertEqual(timed(greatest, tailed_ring(399, 1, {399}), (-2,)), ("most", -798, "a" * 399))
        back = (1, tuple(((s - 1) % 400,) for s in range(400)), tuple(s == 1 for s in range(400)))
        self.assertEqual(timed(greatest, back, (-3,)), ("most", -3 * 399, "a" * 399))
        self.rings(back, (3,), timed(greatest, back, (3,)))

    def test_by_name(self):
        self.assertEqual(greatest(machine=KIND, form=(-2, 2)), ("most", 2, "b"))


class Above(unittest.TestCase):
    def test_small_machines(self):
        found = {True: 0, False: 0}
        for chance, machine, form in cases(103, 500):
            for bound in (chance.randint(-5, 5), chance.randint(-50, 50), chance.choice((-1000, -1, 0, 1))):
                word = above(machine, form, bound)
                self.assertEqual(word, naive_above(machine, form, bound), (machine, form, bound))
                self.assertEqual(above(machine, form, bound), word)
                found[word is None] += 1
        self.assertGreater(min(found.values()), 300)

    def test_rings_that_lead_to_rings(self):
        found = {True: 0, False: 0}
        for chance, machine, form in knotted_cases(108, 400):
            for bound in (chance.randint(-3, 3), chance.randint(0, 60)):
                word = above(machine, form, bound)
                self.assertEqual(word, naive_above(machine, form, bound), (machine, form, bound))
                found[word is None] += 1
        self.assertGreater(min(found.values()), 150)

    def test_far_along_rings(self):
        for chance, machine, form in cases(104, 60):
            for bound in (1000, 999, chance.randint(100, 1000)):
                word = above(machine, form, bound)
                if word is None:
                    known = greatest(machine, form)
                    self.assertTrue(known == ("none",) or known[0] == "most" and known[1] <= bound)
                else:
                    self.assertEqual(word, naive_above(machine, form, bound))

    def test_the_edges(self):
        self.assertEqual(above(KIND, (0, 0), -1), "")
        self.assertIsNone(above(KIND, (0, 0), 0))
        self.assertEqual(above(KIND, (1, -99), 1000), "a" * 1001)
        self.assertEqual(above(KIND, (99, -99), -1000), "")
        self.assertIsNone(above(NOTHING, (1, 1), -1000))
        self.assertEqual(above(chain(11), (-99,), -1000), "a" * 10)
        self.assertIsNone(above(chain(11), (-99,), -990))
        self.assertIsNone(above(chain(12), (-99,), -1000))
        self.assertEqual(above(chain(12), (99,), 1000), "a" * 11)
        self.assertIsNone(above(chain(11), (99,), 990))
        self.assertIsNone(above(EVERY, (0, -1, -99), 0))
        self.assertEqual(above(EVERY, (0, -1, 99), 98), "c")
        self.assertEqual(above(EVERY, (0, -1, 99), 99), "cc")

    def test_less_on_the_way_may_be_first(self):
        # By "b" more is got, but "a" is enough for the word that is first.
        machine = (2, ((1, 1), (2, None), (None, None)), (False, False, True))
        self.assertEqual(above(machine, (1, 5), 1), "aa")
        self.assertEqual(above(machine, (1, 5), 2), "ba")
        self.assertIsNone(above(machine, (1, 5), 6))
        # All words with a "c" are above; the first one has it at its end.
        self.assertEqual(above((3, ((1,) * 3, (2,) * 3, (None,) * 3), (False, False, True)), (0, 0, 1), 0), "ac")

    def test_rings_that_lead_to_no_end_or_are_not_come_to(self):
        self.assertIsNone(above((2, ((1, 2), (1, None), (None, None)), (False, False, True)), (9, 1), 1))
        self.assertIsNone(above((1, ((1,), (None,), (2,)), (True,) * 3), (9,), 9))
        self.assertEqual(above((1, ((1,), (None,), (2,)), (True,) * 3), (9,), 8), "a")

    def test_words_along_a_slow_ring_of_400_states(self):
        word = ("b" + "a" * 399)
        for bound in (-1, 0, 1, 7, 100, 1000):
            self.assertEqual(timed(above, SLOW, (0, 1), bound), word * (bound + 1))
        # Each letter on the way to the ring loses much.
        deep = (2, tuple((s + 1, None) for s in range(200)) + tuple((None, 200 + (s + 1) % 200) for s in range(200)),
                tuple(s == 399 for s in range(400)))
        found = timed(above, deep, (-99, 1), 1000)
        # Rounds of 200 letters, up to the end behind 199 ones, till more than 19800 + 1000 are got.
        self.assertEqual(found, "a" * 200 + "b" * (104 * 200 + 199))

    def test_a_long_way_behind_the_ring(self):
        # A ring of one letter, and behind it 299 letters by which nothing is got any more.
        behind = (2, tuple((s + 1, None) for s in range(100)) + ((101, 100),)
                  + tuple((s + 1 if s < 399 else None, None) for s in range(101, 400)), (False,) * 399 + (True,))
        found = timed(above, behind, (-99, 1), 1000)
        self.assertEqual(found, "a" * 100 + "b" * (99 * 399 + 1001) + "a" * 299)

    def test_how_much_is_gone_through(self):
        sizes = []

        def longer(*values):
            level = plain(*values)
            sizes.append(len(level))
            return level

        plain = counted.longer
        # From the ring many letters lead on, but only at last to words above the bound.
        behind = (2, tuple((s + 1, None) for s in range(100)) + ((101, 100),)
                  + tuple((s + 1 if s < 399 else None, None) for s in range(101, 400)), (False,) * 399 + (True,))
        # Round the first 399 states nothing is got that was not got by shorter words.
        beside = (3, tuple(((s + 1) % 399, s * 3 % 399, 399) for s in range(399)) + ((None, None, 399),), (True,) * 400)
        with unittest.mock.patch.object(counted, "longer", longer):
            self.assertEqual(len(above(behind, (-99, 1), 1000)), 399 + 99 * 399 + 1001)
            self.assertLess(sum(sizes), 100000)
            sizes.clear()
            self.assertEqual(above(beside, (0, 0, 1), 1000), "c" * 1001)
            self.assertLess(sum(sizes), 10000)

    def test_400_states(self):
        for seed in range(3):
            machine = shuffled(wheel(400, ((1, 1), (1, 3), (3, 2)), {7}), seed)
            for form, bound in (((-99, 1, -98), 1000), ((1, 0, 0), 1000), ((3, -2, 1), 500), ((0, 0, -1), -1)):
                word = timed(above, machine, form, bound)
                self.assertTrue(holds(machine, word))
                self.assertGreater(value_of(form, word), bound)
            self.assertIsNone(timed(above, machine, (-1, -2, -3), -1))
            self.assertIsNone(timed(heights, machine, (-1, -2, -3), -1000))
        late = wheel(400, ((1, 1), (1, 3), (3, 2)), {399})
        word = timed(above, late, (-1, -1, -1), -1000)
        self.assertEqual(word, naive_above(late, (0, 0, 0), -1))

    def test_somewhat_beyond(self):
        self.assertEqual(above(KIND, (1, -99), 2000), "a" * 2001)
        self.assertEqual(above(KIND, (150, 0), 1000), "a" * 7)
        self.assertEqual(greatest(chain(450), (1,)), ("most", 449, "a" * 449))

    def test_by_name(self):
        self.assertEqual(above(machine=KIND, form=(-1, 2), bound=2), "bab")


class Arguments(unittest.TestCase):
    def test_they_stay_as_they_are(self):
        for _, machine, form in cases(105, 50):
            kept = copy.deepcopy((machine, form))
            worth(form, "a")
            greatest(machine, form)
            above(machine, form, 10)
            heights(machine, form, 10)
            self.assertEqual((machine, form), kept)


if __name__ == "__main__":
    unittest.main()
