"""Graphs worked out node by node, and images of many sets: the shortcuts tell nothing else, and are taken."""

import random
import unittest
from unittest import mock

from sortedshelves import explored, graphs, imaging
from sortedshelves.errors import TooGreat
from sortedshelves.explored import shows_too_many, smallest_explored
from sortedshelves.lines import images
from tests.naive import all_words, naive_images, some_kind
from tests.reference import (
    blown_up, naive_smallest, random_line, random_machine, random_step, ring, shuffled, timed, wheel, words_of,
)


def explored_machine(machine, counts=None):
    """What smallest_explored returns for the machine, or TooGreat; counts gets the states that it goes on from."""
    _, rows, ends = machine

    def goes(state):
        if counts is not None:
            counts.append(state)
        return list(rows[state])

    def is_end(state):
        return ends[state]

    return timed(smallest_explored, 0, goes, is_end)


class Few(unittest.TestCase):
    """With small bounds, so that all shortcuts are taken by small graphs."""

    def test_too_great_just_where_it_is(self):
        chance = random.Random(71)
        told = {True: 0, False: 0}
        for _ in range(1500):
            letters = chance.choice((1, 2, 3))
            small = random_machine(chance, chance.randint(1, 9), letters, chance.random() / 3, chance.random())
            machine = blown_up(small, chance.randint(len(small[1]), 40), chance.random())
            wanted = naive_smallest(machine)
            for bound in (2, 5):
                for first, again in ((1, 2), (3, 4), (20, 2)):
                    with mock.patch.object(explored, "MAX_ROWS", bound), mock.patch.object(graphs, "MAX_ROWS", bound), \
                            mock.patch.object(explored, "FIRST_CHECK", first), \
                            mock.patch.object(explored, "CHECK_AGAIN", again):
                        found = explored_machine(machine)
                    self.assertEqual(found, wanted if len(wanted[1]) <= bound else TooGreat, machine)
                    told[found is TooGreat] += 1
        self.assertGreater(min(told.values()), 1000)

    def test_what_shows_too_many(self):
        chance = random.Random(72)
        told = {True: 0, False: 0}
        for _ in range(1500):
            letters = chance.choice((1, 2, 3))
            machine = random_machine(chance, chance.randint(1, 12), letters, chance.random() / 3, chance.random())
            _, rows, ends = machine
            order = graphs.reached(rows)
            places = {state: at for at, state in enumerate(order)}
            held = [[None if target is None else places[target] for target in rows[state]] for state in order]
            many = chance.randint(1, len(order))
            for bound in (1, 2, 4):
                with mock.patch.object(explored, "MAX_ROWS", bound):
                    found = shows_too_many(held[:many], [ends[state] for state in order])
                if found:
                    self.assertGreater(len(naive_smallest(machine)[1]), bound)
                told[found] += 1
        self.assertGreater(min(told.values()), 100)

    def test_images_of_many_sets(self):
        chance = random.Random(73)
        lengths = {1: (9, 14), 2: (5, 10), 3: (3, 6)}
        for _ in range(200):
            letters = chance.choice((1, 2, 2, 3))
            kind, line = some_kind(chance, letters, 3), random_line(chance, letters)
            plain = timed(images, kind, line)
            for sets, asked, work in ((0, 6000, 2000000), (1, 6000, 2000000), (3, 6000, 40), (2, 5, 100), (1, 6000, 1)):
                with mock.patch.object(imaging, "MANY_SETS", sets), mock.patch.object(imaging, "ASKED", asked), \
                        mock.patch.object(imaging, "WORK", work):
                    self.assertEqual(timed(images, kind, line), plain, (kind, line))
            if plain is not TooGreat:
                length, source = lengths[letters]
                self.assertEqual(words_of(plain, length), naive_images(kind, line, length, source))

    def test_images_too_great_just_where_they_are(self):
        chance = random.Random(74)
        told = {True: 0, False: 0}
        for _ in range(300):
            letters = chance.choice((1, 2))
            kind, line = some_kind(chance, letters, 4), random_line(chance, letters)
            plain = timed(images, kind, line)
            if plain is TooGreat:
                continue
            for bound in (2, 6):
                for sets in (1, 4):
                    with mock.patch.object(imaging, "MANY_SETS", sets), mock.patch.object(imaging, "MAX_ROWS", bound), \
                            mock.patch.object(graphs, "MAX_ROWS", bound):
                        found = timed(images, kind, line)
                    self.assertEqual(found, plain if len(plain[1]) <= bound else TooGreat, (kind, line))
                    told[found is TooGreat] += 1
        self.assertGreater(min(told.values()), 50)


class Many(unittest.TestCase):
    def test_many_nodes_of_few_states(self):
        for small, states in ((ring(400, (0, 7), 2), 4000), (wheel(90, ((1, 1), (2, 1)), (3, 9)), 9000), (all_words(3), 5000)):
            self.assertEqual(explored_machine(shuffled(blown_up(small, states, 5), 6)), naive_or_same(small))

    def test_one_state_more(self):
        self.assertIs(explored_machine(blown_up(ring(401, (0, 7), 2), 4010, 5)), TooGreat)
        self.assertIs(explored_machine(ring(401, (5,))), TooGreat)
        self.assertEqual(explored_machine(ring(400, (5,))), ring(400, (5,)))

    def test_too_great_is_known_early(self):
        chance = random.Random(75)
        counts = []
        many = 300000
        rows = [[chance.randrange(many), chance.randrange(many)] for _ in range(many)]
        machine = (2, rows, [chance.random() < 0.5 for _ in range(many)])
        self.assertIs(explored_machine(machine, counts), TooGreat)
        self.assertLess(len(counts), 7000)

    def test_images(self):
        chance = random.Random(76)
        raised = 0
        for _ in range(150):
            letters = chance.choice((2, 3))
            kind = random_machine(chance, chance.randint(2, 6), letters, 0.2, 0.5)
            line = tuple(random_step(chance, letters) for _ in range(3))
            found = timed(images, kind, line)
            with mock.patch.object(imaging, "MANY_SETS", 10 ** 9), mock.patch.object(explored, "FIRST_CHECK", 4000):
                self.assertEqual(timed(images, kind, line), found)
            raised += found is TooGreat
        self.assertGreater(raised, 0)


def naive_or_same(machine):
    """The smallest machine; those of more than few states here are the smallest ones already."""
    return machine if len(machine[1]) >= 400 else naive_smallest(machine)


if __name__ == "__main__":
    unittest.main()
