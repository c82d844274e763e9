"""is_of, told, count and size of point 4."""

import unittest

from sortedshelves.machines import count, is_of, size, told
from tests.reference import chain, holds, random_machines, ring, shuffled, timed, wheel, words_of, words_up_to

EVERY = (3, ((0, 0, 0),), (True,))
NOTHING = (2, ((0, 1), (1, None)), (False, False))
KIND = (2, ((0, 1), (0, None)), (True, True))


def again(call, *values):
    """What the call returns, asked twice."""
    first = call(*values)
    second = call(*values)
    assert first == second and first.__class__ is second.__class__
    return first


class IsOf(unittest.TestCase):
    def test_words_of_small_machines(self):
        for machine in random_machines(1, 60):
            for word in words_up_to(machine[0], 4):
                self.assertIs(again(is_of, machine, word), holds(machine, word))

    def test_the_empty_word(self):
        self.assertIs(again(is_of, KIND, ""), True)
        self.assertIs(again(is_of, NOTHING, ""), False)
        self.assertIs(again(is_of, chain(2), ""), False)

    def test_no_end_and_no_item(self):
        self.assertIs(is_of(NOTHING, "aab"), False)
        self.assertIs(is_of(KIND, "abb"), False)
        self.assertIs(is_of(KIND, "abba"), False)
        self.assertIs(is_of(chain(3), "aaa"), False)

    def test_long_words(self):
        self.assertIs(is_of(ring(400, {0}), "a" * 400), True)
        self.assertIs(is_of(ring(400, {0}), "a" * 40001), False)
        self.assertIs(is_of(EVERY, "abc" * 100000), True)

    def test_by_name(self):
        self.assertIs(is_of(machine=KIND, word="ab"), True)


class Told(unittest.TestCase):
    def test_words_of_small_machines(self):
        for machine in random_machines(2, 60):
            words = words_of(machine, 4)
            for length in range(5):
                these = tuple(word for word in words if len(word) == length)
                for most in (0, 1, 2, 3, 7, 60):
                    self.assertEqual(again(told, machine, length, most), these[:most])

    def test_the_edges(self):
        self.assertEqual(told(KIND, 0, 60), ("",))
        self.assertEqual(told(KIND, 0, 0), ())
        self.assertEqual(told(KIND, 3, 0), ())
        self.assertEqual(told(KIND, 400, 0), ())
        self.assertEqual(told(NOTHING, 0, 60), ())
        self.assertEqual(told(NOTHING, 400, 60), ())
        self.assertEqual(told(chain(400), 399, 60), ("a" * 399,))
        self.assertEqual(told(chain(400), 400, 60), ())
        self.assertEqual(told(ring(400, {0}), 400, 1), ("a" * 400,))

    def test_length_400(self):
        self.assertEqual(told(EVERY, 400, 4), tuple("a" * 399 + sign for sign in "abc") + ("a" * 398 + "ba",))
        self.assertEqual(len(told(EVERY, 400, 60)), 60)
        self.assertEqual(told(EVERY, 400, 60)[-1], "a" * 396 + "cabc")

    def test_paths_that_lead_nowhere_are_left(self):
        # All words but one die at their last letter.
        machine = (2, ((1, 2), (1, None), (2, 3), (None, None)), (False, False, False, True))
        self.assertEqual(told(machine, 400, 60), ("b" + "a" * 398 + "b",))

    def test_somewhat_beyond(self):
        self.assertEqual(told(KIND, 401, 1), ("a" * 401,))
        self.assertEqual(len(told(EVERY, 5, 100)), 100)
        self.assertEqual(told(chain(450), 449, 61), ("a" * 449,))

    def test_by_name(self):
        self.assertEqual(told(machine=KIND, length=3, most=2), ("aaa", "aab"))


class Count(unittest.TestCase):
    def test_words_of_small_machines(self):
        for machine in random_machines(3, 60):
            words = words_of(machine, 5)
            for length in range(6):
                self.assertEqual(again(count, machine, length), sum(len(word) == length for word in words))

    def test_the_edges(self):
        self.assertEqual(again(count, EVERY, 0), 1)
        self.assertEqual(again(count, EVERY, 400), 3 ** 400)
        self.assertEqual(again(count, NOTHING, 0), 0)
        self.assertEqual(again(count, NOTHING, 400), 0)
        self.assertEqual(again(count, ring(400, {0}, 3), 400), 3 ** 400)
        self.assertEqual(again(count, ring(400, {0}, 3), 399), 0)
        self.assertEqual(again(count, KIND, 401), self.fibonacci(401))

    def fibonacci(self, length):
        one, other = 1, 2
        for _ in range(length):
            one, other = other, one + other
        return one

    def test_fibonacci(self):
        self.assertEqual(count(machine=KIND, length=400), self.fibonacci(400))

    def test_results_are_integers(self):
        for length in (0, 1, 400):
            self.assertIs(count(KIND, length).__class__, int)


class Size(unittest.TestCase):
    def test_finite_machines(self):
        self.assertEqual(size((1, ((None,),), (True,))), 1)
        self.assertEqual(size(chain(5, 2)), 16)
        self.assertEqual(size(chain(5, 2, ends=range(5))), 31)
        self.assertEqual(size((2, ((1, 1), (2, None), (None, None)), (True, False, True))), 3)

    def test_no_word(self):
        self.assertEqual(size(NOTHING), 0)
        self.assertEqual(size((1, ((None,),), (False,))), 0)
        self.assertIs(size((1, ((0,),), (False,))).__class__, int)

    def test_without_end(self):
        self.assertIsNone(size(KIND))
        self.assertIsNone(size(ring(400, {399})))
        self.assertIsNone(size((1, ((0,),), (True,))))
        self.assertIsNone(size((2, ((1, None), (2, 0), (None, None)), (False, False, True))))

    def test_rings_that_lead_to_no_end(self):
        self.assertEqual(size((2, ((1, 2), (1, 1), (None, None)), (False, False, True))), 1)
        self.assertEqual(size((2, ((1, 0), (1, 1)), (False, False))), 0)

    def test_states_that_no_word_comes_to(self):
        self.assertEqual(size((1, ((1,), (None,), (2,)), (True, True, True))), 2)
        self.assertEqual(size((1, ((None,), (0,), (1,)), (True, True, True))), 1)

    def test_against_counts(self):
        for machine in random_machines(4, 200, states=4):
            many = len(machine[1])
            if any(count(machine, n) for n in range(many, 2 * many)):
                self.assertIsNone(again(size, machine))
            else:
                self.assertEqual(again(size, machine), sum(count(machine, n) for n in range(many)))

    def test_great_finite_machine(self):
        self.assertEqual(size(machine=chain(400, 3, ends=range(400))), (3 ** 400 - 1) // 2)


class Great(unittest.TestCase):
    def test_400_states(self):
        machine = shuffled(wheel(400, ((1, 1), (1, 3), (3, 2)), {0}), 7)
        words = timed(told, machine, 400, 60)
        self.assertEqual((len(words), words), (60, tuple(sorted(words))))
        self.assertTrue(all(len(word) == 400 and holds(machine, word) for word in words))
        self.assertEqual(timed(told, machine, 400, 60), words)
        number = timed(count, machine, 400)
        self.assertTrue(0 < number < 3 ** 400)
        self.assertEqual(number, timed(count, machine, 400))
        self.assertIsNone(timed(size, machine))
        self.assertEqual(timed(size, chain(400, 3)), 3 ** 399)
        self.assertIs(timed(is_of, machine, "a" * 1000000), True)


if __name__ == "__main__":
    unittest.main()
