"""Knots and raised heights, by which forms and limits are worked out."""

import random
import unittest

from sortedshelves.graphs import knots, raised
from tests.reference import random_machines, reach, ring, shuffled, timed, wheel


class Knots(unittest.TestCase):
    def check(self, machine):
        found, reached = knots(machine[1]), reach(machine)
        self.assertEqual(sorted(state for members in found for state in members), list(range(len(machine[1]))))
        place = {state: at for at, members in enumerate(found) for state in members}
        for state in place:
            for target in place:
                together = target in reached[state] and state in reached[target]
                self.assertEqual(place[state] == place[target], together)
                if target in reached[state]:
                    self.assertLessEqual(place[target], place[state])

    def test_small_machines(self):
        for machine in random_machines(601, 400, states=8):
            self.check(machine)

    def test_great_machines(self):
        self.assertEqual(len(timed(knots, shuffled(ring(400, {0}), 3)[1])), 1)
        self.assertEqual(len(timed(knots, wheel(400, ((1, 1), (3, 2)), {0})[1])), 1)
        self.check(shuffled((2, tuple((s + 1 if s < 59 else None, s - s % 3) for s in range(60)), (True,) * 60), 8))


class Raised(unittest.TestCase):
    def test_edges(self):
        chance = random.Random(602)
        rings = 0
        for _ in range(1000):
            states = chance.randint(1, 6)
            edges = [(chance.randrange(states), chance.randrange(states), chance.randint(-5, 3), at)
                     for at in range(chance.randint(0, 9))]
            heights = {state: 0 for state in range(states) if state == 0 or chance.random() < 0.5}
            found = raised(edges, heights, states)
            if found is None:
                for tail, head, gain, _ in edges:
                    self.assertTrue(tail not in heights or heights[head] >= heights[tail] + gain)
                continue
            rings += 1
            self.assertGreater(sum(edge[2] for edge in found), 0)
            self.assertTrue(all(edge in edges for edge in found))
            for edge, further in zip(found, found[1:] + found[:1]):
                self.assertEqual(edge[0], further[1])
            self.assertEqual(len({edge[1] for edge in found}), len(found))
        self.assertGreater(rings, 100)

    def test_just_settled(self):
        # As many rounds as there are states tell a long way from a ring.
        edges = [(state, state + 1, 1, 0) for state in range(398, -1, -1)]
        heights = {0: 0}
        self.assertIsNone(raised(edges, heights, 400))
        self.assertEqual(heights, {state: state for state in range(400)})
        found = timed(raised, [(399, 0, -398, 0)] + edges, {0: 0}, 400)
        self.assertEqual(sum(edge[2] for edge in found), 1)
        self.assertIsNone(timed(raised, [(399, 0, -399, 0)] + edges, {0: 0}, 400))


if __name__ == "__main__":
    unittest.main()
