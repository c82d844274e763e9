"""smallest, begins and backwards of point 5."""

import random
import unittest

from sortedshelves.errors import ShelfError, TooGreat
from sortedshelves.machines import backwards, begins, smallest
from tests.reference import (
    blown_up, chain, doubled, holds, naive_smallest, random_machine, random_machines, ring, shuffled,
    smallest_of_words, timed, wheel, words_up_to,
)

NOTHING = {n: (n, ((None,) * n,), (False,)) for n in (1, 2, 3)}

# Read backwards they need 400 and 401 states.
TO_400 = (
    2, ((4, 0), (0, 4), (2, 7), (8, 7), (9, 9), (3, 1), (None, 2), (1, 3), (1, 6), (5, 1)),
    (False, False, False, False, True, True, True, True, False, False),
)
TO_401 = (
    2, ((7, 5), (8, 6), (0, 7), (5, 9), (3, 5), (4, 9), (1, 8), (9, 4), (0, 0), (2, 1)),
    (False, True, False, True, False, True, False, False, False, False),
)


class Smallest(unittest.TestCase):
    def test_small_machines(self):
        for machine in random_machines(11, 300):
            found = smallest(machine)
            self.assertEqual(found, naive_smallest(machine))
            self.assertEqual(found, smallest_of_words(machine[0], lambda word: holds(machine, word)))

    def test_it_has_just_these_words(self):
        for machine in random_machines(12, 60, states=8):
            found = smallest(machine)
            for word in words_up_to(machine[0], 5):
                self.assertEqual(holds(found, word), holds(machine, word))

    def test_again_it_is_itself(self):
        for machine in random_machines(13, 200, states=9):
            found = smallest(machine)
            self.assertEqual(smallest(found), found)

    def test_states_doubled_and_in_another_order(self):
        for seed, machine in enumerate(random_machines(14, 150, states=9)):
            found = smallest(machine)
            self.assertEqual(smallest(doubled(machine)), found)
            self.assertEqual(smallest(shuffled(machine, seed)), found)
            self.assertEqual(smallest(shuffled(doubled(doubled(machine)), seed)), found)

    def test_blocks_that_are_parted_many_times(self):
        chance = random.Random(15)
        for seed in range(400):
            letters, states = chance.randint(1, 3), chance.randint(10, 40)
            base = random_machine(chance, states, letters, chance.choice((0, 0, 0.02, 0.2)), 2 / states)
            machine = blown_up(base, states + chance.randint(0, 60), seed)
            found = smallest(machine)
            self.assertEqual(found, naive_smallest(base))
            self.assertEqual(smallest(shuffled(machine, seed)), found)

    def test_blocks_that_wait_while_they_are_parted(self):
        chance = random.Random(16)
        for _ in range(600):
            machine = random_machine(chance, chance.randint(16, 45), 2, 0, 0.5)
            self.assertEqual(smallest(machine), naive_smallest(machine))

    def test_states_that_no_word_comes_to_or_that_lead_nowhere(self):
        machine = (2, ((1, 3), (None, 0), (0, 1), (3, 3)), (True, False, True, False))
        self.assertEqual(smallest(machine), (2, ((1, None), (None, 0)), (True, False)))

    def test_numbered_by_first_words(self):
        machine = (3, ((3, 2, 1), (None, None, 1), (2, None, None), (None, 3, None)), (False, True, True, True))
        found = (3, ((1, 2, 3), (None, 1, None), (2, None, None), (None, None, 3)), (False, True, True, True))
        self.assertEqual(smallest(machine), found)

    def test_no_words(self):
        self.assertEqual(smallest((1, ((None,),), (False,))), NOTHING[1])
        self.assertEqual(smallest((2, ((0, 1), (1, 0)), (False, False))), NOTHING[2])
        self.assertEqual(smallest((3, ((0, 0, 0), (0, 0, 0)), (False, True))), NOTHING[3])

    def test_only_the_empty_word(self):
        self.assertEqual(smallest((1, ((1,), (1,)), (True, False))), (1, ((None,),), (True,)))

    def test_great_machines(self):
        self.assertEqual(timed(smallest, ring(400, {0}, 3)), ring(400, {0}, 3))
        self.assertEqual(timed(smallest, shuffled(ring(400, {0}, 3), 1)), ring(400, {0}, 3))
        self.assertEqual(timed(smallest, ring(400, range(0, 400, 8), 3)), ring(8, {0}, 3))
        self.assertEqual(timed(smallest, chain(400, 3)), chain(400, 3))
        self.assertEqual(timed(smallest, doubled(ring(200, {5}, 3))), ring(200, {5}, 3))
        machine = wheel(400, ((1, 1), (1, 3), (3, 2)), set(range(0, 400, 40)))
        self.assertEqual(timed(smallest, machine), naive_smallest(machine))

    def test_somewhat_beyond(self):
        self.assertEqual(smallest(doubled(ring(300, {0}))), ring(300, {0}))
        with self.assertRaises(TooGreat):
            smallest(ring(401, {0}))

    def test_kinds_of_values(self):
        letters, rows, ends = smallest((2, ((1, 2), (1, 2), (1, 2)), (True, True, True)))
        self.assertIs(letters.__class__, int)
        self.assertTrue(rows.__class__ is tuple and rows[0].__class__ is tuple and ends.__class__ is tuple)
        self.assertIs(ends[0], True)

    def test_by_name(self):
        self.assertEqual(smallest(machine=ring(4, {0, 2})), ring(2, {0}))


class Begins(unittest.TestCase):
    def test_against_words(self):
        for machine in random_machines(21, 120, states=3):
            tails = words_up_to(machine[0], 3)

            def begun(word):
                return any(holds(machine, word + tail) for tail in tails)

            self.assertEqual(begins(machine), smallest_of_words(machine[0], begun))

    def test_no_words(self):
        self.assertEqual(begins((2, ((0, 1), (1, 0)), (False, False))), NOTHING[2])

    def test_the_empty_word_and_the_words_are_among_them(self):
        self.assertEqual(begins(chain(4, 2)), chain(4, 2, ends=range(4)))
        self.assertEqual(begins((1, ((None,),), (True,))), (1, ((None,),), (True,)))

    def test_great_machines(self):
        self.assertEqual(timed(begins, ring(400, {0}, 3)), ring(1, {0}, 3))
        self.assertEqual(timed(begins, chain(400, 3)), chain(400, 3, ends=range(400)))
        with self.assertRaises(TooGreat):
            begins(chain(401))

    def test_by_name(self):
        self.assertEqual(begins(machine=chain(2)), chain(2, ends=range(2)))


class Backwards(unittest.TestCase):
    def test_against_words(self):
        checked = 0
        for machine in random_machines(31, 400, states=4):
            found = backwards(machine)
            self.assertEqual(naive_smallest(found), found)
            if len(found[1]) <= 5:
                checked += 1
                self.assertEqual(found, smallest_of_words(machine[0], lambda word: holds(machine, word[::-1])))
            else:
                for word in words_up_to(machine[0], 5):
                    self.assertEqual(holds(found, word), holds(machine, word[::-1]))
        self.assertGreater(checked, 200)

    def test_twice_is_the_smallest(self):
        for machine in random_machines(32, 200, states=6):
            self.assertEqual(backwards(backwards(machine)), smallest(machine))

    def test_no_words(self):
        self.assertEqual(backwards((3, ((0, 0, 0), (0, 0, 0)), (False, True))), NOTHING[3])
        self.assertEqual(backwards((1, ((0,),), (False,))), NOTHING[1])

    def test_states_that_no_word_comes_to(self):
        machine = (1, ((1,), (None,), (1,)), (False, True, True))
        self.assertEqual(backwards(machine), chain(2))

    def test_400_states_but_not_401(self):
        found = backwards(TO_400)
        self.assertEqual(len(found[1]), 400)
        self.assertEqual(naive_smallest(found), found)
        self.assertEqual(backwards(found), smallest(TO_400))
        with self.assertRaises(TooGreat) as caught:
            backwards(TO_401)
        self.assertIsInstance(caught.exception, ShelfError)

    def test_great_machines(self):
        self.assertEqual(timed(backwards, ring(400, {0}, 3)), ring(400, {0}, 3))
        self.assertEqual(timed(backwards, ring(400, {399}, 3)), ring(400, {399}, 3))
        self.assertEqual(timed(backwards, chain(400, 3)), chain(400, 3))
        # Whether the letter that is the 300th from the end on is "a" takes too many sets.
        rows = tuple((s + 1, s + 1) for s in range(300)) + ((301, None), (301, 301))
        machine = (2, rows, (False,) * 301 + (True,))
        self.assertEqual(timed(backwards, machine), TooGreat)

    def test_by_name(self):
        self.assertEqual(backwards(machine=chain(3)), chain(3))


if __name__ == "__main__":
    unittest.main()
