"""goes_on of point 4."""

import random
import unittest

from sortedshelves.machines import count, goes_on, less, smallest
from tests.reference import chain, naive_rule, random_machine, random_machines, ring, timed

NOTHING = (2, ((0, 1), (1, None)), (False, False))


class GoesOn(unittest.TestCase):
    def test_against_plain_elimination(self):
        for machine in random_machines(5, 250, states=6):
            numbers = [count(machine, n) for n in range(20)]
            found = goes_on(machine)
            self.assertEqual(found, naive_rule(numbers, 6))
            self.assertTrue(all(item.__class__ is int for item in found))

    def test_no_word(self):
        self.assertEqual(goes_on(NOTHING), ())
        self.assertEqual(goes_on((1, ((None,),), (False,))), ())
        self.assertEqual(goes_on(ring(40, set(), 3)), ())
        self.assertEqual(goes_on(less(ring(3, {1}), ring(3, {1}))), ())

    def test_finite_machines_end_in_zeros(self):
        self.assertEqual(goes_on((1, ((None,),), (True,))), (0,))
        self.assertEqual(goes_on((1, ((1,), (None,)), (True, True))), (0, 0))
        self.assertEqual(goes_on(chain(40)), (0,) * 40)
        self.assertEqual(goes_on(chain(40, 3)), (0,) * 40)
        self.assertEqual(goes_on(chain(4, 2, ends={1})), (0, 0))

    def test_last_items_may_be_0(self):
        # "" is not of it, all other words are.
        self.assertEqual(goes_on((2, ((1, 1), (1, 1)), (False, True))), (2, 0))
        self.assertEqual(goes_on((1, ((1,), (2,), (2,)), (False, False, True))), (1, 0, 0))

    def test_known_ones(self):
        self.assertEqual(goes_on((3, ((0, 0, 0),), (True,))), (3,))
        self.assertEqual(goes_on((2, ((0, 0),), (True,))), (2,))
        self.assertEqual(goes_on((1, ((0,),), (True,))), (1,))
        self.assertEqual(goes_on((2, ((0, 1), (0, None)), (True, True))), (1, 1))
        self.assertEqual(goes_on((2, ((0, 1), (1, 0)), (True, False))), (2, 0))

    def test_the_shortest(self):
        # Many states, but the counts are those of one.
        self.assertEqual(goes_on(ring(40, set(range(40)), 3)), (3,))
        machine = (3, ((1, 2, 2), (2, 0, 0), (0, 1, 1)), (True, True, True))
        self.assertEqual(goes_on(machine), (3,))

    def test_rings(self):
        for states in (1, 2, 7, 39, 40):
            self.assertEqual(goes_on(ring(states, {0})), (0,) * (states - 1) + (1,))
            self.assertEqual(goes_on(ring(states, {states - 1})), (0,) * (states - 1) + (1,))
            self.assertEqual(goes_on(ring(states, {0}, 2)), (0,) * (states - 1) + (2 ** states,))

    def test_40_states(self):
        chance = random.Random(6)
        for letters, empty, end in ((1, 0.0, 0.5), (2, 0.2, 0.3), (3, 0.1, 0.5), (3, 0.4, 0.1), (3, 0.0, 0.02)):
            for _ in range(4):
                machine = random_machine(chance, 40, letters, empty, end)
                found = timed(goes_on, machine)
                k = len(found)
                numbers = [count(machine, n) for n in range(k + 81)]
                for n in range(k, len(numbers)):
                    self.assertEqual(numbers[n], sum(found[i] * numbers[n - 1 - i] for i in range(k)))
                self.assertEqual(found, goes_on(smallest(machine)))
                # A shorter tuple would hold for these counts, too, as rows of a table of full rank tell.
                self.assertEqual(rank_modulo(numbers, k), k)

    def test_somewhat_beyond(self):
        self.assertEqual(goes_on(ring(45, {0})), (0,) * 44 + (1,))
        self.assertEqual(goes_on(chain(60)), (0,) * 60)

    def test_by_name(self):
        self.assertEqual(goes_on(machine=(2, ((0, 0),), (True,))), (2,))


def rank_modulo(numbers, k):
    """The rank of the table of k rows and columns of the numbers, beside a great prime: at most the true one."""
    prime = 2 ** 127 - 1
    rows = [[numbers[i + j] % prime for j in range(k)] for i in range(k)]
    done = 0
    for column in range(k):
        pivot = next((r for r in range(done, k) if rows[r][column]), None)
        if pivot is None:
            continue
        rows[done], rows[pivot] = rows[pivot], rows[done]
        turned = pow(rows[done][column], -1, prime)
        for r in range(done + 1, k):
            factor = rows[r][column] * turned
            rows[r] = [(value - factor * other) % prime for value, other in zip(rows[r], rows[done])]
        done += 1
    return done


if __name__ == "__main__":
    unittest.main()
