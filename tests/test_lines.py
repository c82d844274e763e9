"""alike, again, leaves, overlong (point 9)."""

import random
import unittest

from sortedshelves.lines import again, alike, leaves, overlong
from sortedshelves.machines import smallest
from sortedshelves.steps import image
from tests.naive import all_words, longest, naive_alike, naive_leaves, naive_overlong, some_kind
from tests.reference import (
    blown_up, chain, holds, random_line, random_machine, random_step, random_unit, ring, timed, value_of, wheel,
    words_of,
)

LENGTHS = {1: 9, 2: 6, 3: 4}
FOLD = ("pass", ((0, 0),), (("b", "a"),))
EVERY = all_words(2)


class Against(unittest.TestCase):
    """Against all words up to some length, one by one."""

    def told(self, found, wanted, length, what):
        if wanted is not None:
            self.assertEqual(found, wanted, what)
        elif found is not None:
            self.assertGreater(longest(found), length, what)

    def test_alike_and_again(self):
        chance = random.Random(901)
        for _ in range(400):
            letters = chance.choice((1, 2, 2, 3))
            kind, one, other = some_kind(chance, letters), random_line(chance, letters), random_line(chance, letters)
            words = words_of(kind, LENGTHS[letters])
            for left, right in ((one, other), (one, one[::-1]), (one, one + other[:1]), (one, one + one)):
                found = alike(kind, left, right)
                self.told(found, naive_alike(words, left, right), LENGTHS[letters], (kind, left, right))
                self.assertEqual(found, alike(kind, right, left))
                if found is not None:
                    self.assertTrue(holds(kind, found))
                    self.assertNotEqual(image(left, found), image(right, found))
            self.assertEqual(again(kind, one), alike(kind, one, one + one))
            self.assertIsNone(alike(kind, one, one))

    def test_leaves(self):
        chance = random.Random(902)
        for _ in range(400):
            letters = chance.choice((1, 2, 2, 3))
            kind, line = some_kind(chance, letters), random_line(chance, letters)
            words = words_of(kind, LENGTHS[letters])
            small = random_machine(chance, chance.randint(1, 6), letters, 0.1, 0.8)
            for target in (kind, small, blown_up(small, 40, 3), random_machine(chance, 300, letters, 0.01, 0.95)):
                found = leaves(kind, line, target)
                self.told(found, naive_leaves(words, line, target), LENGTHS[letters], (kind, line, target))
                if found is not None:
                    self.assertTrue(holds(kind, found) and not holds(target, image(line, found)))

    def test_overlong(self):
        chance = random.Random(903)
        for _ in range(500):
            letters = chance.choice((1, 2, 2, 3))
            kind, line = some_kind(chance, letters), random_line(chance, letters)
            words = words_of(kind, LENGTHS[letters])
            limit = (random_unit(chance, letters), chance.choice((0, 1, 2, 5, 9)))
            found = overlong(kind, line, limit)
            self.told(found, naive_overlong(words, line, limit), LENGTHS[letters], (kind, line, limit))
            if found is not None:
                self.assertTrue(holds(kind, found))
                self.assertGreater(value_of(limit[0], image(line, found)), limit[1])


class Edges(unittest.TestCase):
    def test_kinds_without_words_and_with_one(self):
        nothing, empty = (2, ((0, 0),), (False,)), (2, ((None, None),), (True,))
        for kind in (nothing, empty):
            self.assertIsNone(alike(kind, (), (FOLD,)))
            self.assertIsNone(again(kind, (FOLD,)))
            self.assertIsNone(overlong(kind, (FOLD,), ((1, 1), 0)))
        self.assertIsNone(leaves(nothing, (FOLD,), nothing))
        self.assertIsNone(leaves(empty, (FOLD,), empty))
        self.assertEqual(leaves(empty, (FOLD,), nothing), "")

    def test_a_finite_kind(self):
        kind = chain(6, 2)
        self.assertEqual(alike(kind, (), (FOLD,)), "aaaaa")
        self.assertIsNone(alike(kind, (("cut", (1, 1), 3),), (("cut", (2, 2), 7),)))
        self.assertEqual(overlong(kind, (FOLD,), ((9, 1), 44)), "bbbbb")
        self.assertIsNone(overlong(kind, (FOLD,), ((9, 1), 45)))
        self.assertEqual(leaves(kind, (), (2, ((0, None),), (True,))), "aaaab")

    def test_unlike_images_that_begin_alike(self):
        # The images become unlike by their lengths alone, where the word ends.
        self.assertEqual(alike(EVERY, (), (("cut", (1, 0), 1),)), "aa")
        self.assertEqual(alike(EVERY, (("stop", "b"),), ()), "b")
        swap = ("swap", (("ab", "ba"),))
        self.assertEqual(alike(EVERY, (swap, ("cut", (1, 1), 1)), (("cut", (1, 1), 1),)), "ab")

    def test_passes_of_four_turns(self):
        round_about = ("pass", ((1, 1), (2, 2), (3, 3), (0, 0)), (("a", "b"), ("a", "b"), ("a", "b"), ("b", "a")))
        self.assertEqual(alike(EVERY, (round_about,), ()), "aaaa")
        self.assertIsNone(alike(EVERY, (round_about, round_about), ()))
        self.assertEqual(again((2, ((1, None), (2, None), (0, None)), (True, False, False)), (round_about,)), "aaaaaa")

    def test_swaps_with_pairs_of_unlike_lengths(self):
        swap = ("swap", (("a", "b"), ("bc", "ca"), ("ac", "cc")))
        kind = all_words(3)
        self.assertEqual(alike(kind, (swap,), ()), "a")
        self.assertEqual(again(kind, (swap,)), "a")
        self.assertEqual(image((swap,), "cbc"), "cac")
        self.assertEqual(alike((3, ((None, None, 1), (None, None, 2), (None,) * 3), (False, False, True)), (swap,), ()),
                         "cc")

    def test_late_first_words(self):
        self.assertEqual(alike(EVERY, (("cut", (0, 1), 30),), ()), "b" * 31)
        self.assertEqual(alike(EVERY, (("cut", (0, 1), 30),), (("cut", (0, 1), 29),)), "b" * 30)
        target = ring(400, range(399), 2)
        self.assertEqual(leaves(EVERY, (("pass", ((0, 0),), (("b", "b"),)),), target), "a" * 399)
        self.assertEqual(leaves((2, ((1, 1), (2, 2), (0, 0)), (True, False, False)), (), target), "a" * 399)
        self.assertEqual(leaves((2, ((1, 1), (0, 0)), (True, False)), (), ring(399, range(398), 2)), "a" * 398)
        self.assertEqual(leaves((2, ((1, 1), (0, 0)), (False, True)), (), ring(399, range(398), 2)), "a" * 797)
        self.assertEqual(overlong(EVERY, (("stop", "b"),), ((1, 1), 200)), "a" * 201)
        threes = (2, ((1, 1), (2, 2), (0, 0)), (True, False, False))
        self.assertEqual(overlong(threes, (), ((0, 1), 200)), "b" * 201)
        self.assertEqual(overlong(threes, (), ((0, 1), 199)), "a" + "b" * 200)

    def test_targets_of_many_states(self):
        chance = random.Random(904)
        for seed in range(20):
            target = random_machine(chance, 400, 2, 0.005, 0.97)
            line = tuple(random_step(chance, 2) for _ in range(3))
            self.assertEqual(leaves(EVERY, line, target), leaves(EVERY, line, smallest(target)))


class Great(unittest.TestCase):
    def test_great_sizes(self):
        chance = random.Random(905)
        for seed in range(25):
            letters = chance.choice((2, 3))
            kind = wheel(6, ((1, 1), (1, 2), (5, 1))[:letters], range(seed % 3, 6))
            line, other = [tuple(random_step(chance, letters) for _ in range(3)) for _ in range(2)]
            target = blown_up(random_machine(chance, 30, letters, 0, 0.99), 400, seed)
            timed(alike, kind, line, other)
            timed(again, kind, line)
            timed(leaves, kind, line, target)
            timed(overlong, kind, line, (random_unit(chance, letters), 200))


if __name__ == "__main__":
    unittest.main()
