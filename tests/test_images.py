"""images, sources, greatest_image (point 10)."""

import random
import unittest

from sortedshelves.errors import TooGreat
from sortedshelves.forms import greatest, worth
from sortedshelves.lines import greatest_image, images, leaves, sources
from sortedshelves.machines import apart, less, smallest
from sortedshelves.steps import image
from tests.naive import all_words, first_of, naive_image, naive_images, some_kind
from tests.reference import (
    blown_up, chain, holds, naive_smallest, random_form, random_line, random_machine, random_step, ring, timed,
    value_of, wheel, words_of, words_up_to,
)

EVERY = all_words(2)
FOLD = ("pass", ((0, 0),), (("b", "b"),))
TAILS = words_up_to(2, 5)


def cuts(one, other):
    """A line by which at most so many "a" and so many "b" are left."""
    return (("cut", (1, 0), one), ("cut", (0, 1), other))


class Images(unittest.TestCase):
    def test_against_all_words(self):
        chance = random.Random(921)
        lengths = {1: (9, 14), 2: (5, 10), 3: (3, 6)}
        for _ in range(250):
            letters = chance.choice((1, 2, 2, 3))
            kind, line = some_kind(chance, letters, 3), random_line(chance, letters)
            found = timed(images, kind, line)
            if found is TooGreat:
                continue
            length, source = lengths[letters]
            self.assertEqual(words_of(found, length), naive_images(kind, line, length, source), (kind, line))
            self.assertEqual(naive_smallest(found), found)

    def test_each_image_is_of_it(self):
        chance = random.Random(922)
        for _ in range(150):
            letters = chance.choice((1, 2, 3))
            kind, line = some_kind(chance, letters), random_line(chance, letters)
            found = timed(images, kind, line)
            if found is not TooGreat:
                self.assertIsNone(leaves(kind, line, found))

    def test_of_no_word_and_of_one(self):
        nothing = (2, ((None, None),), (False,))
        self.assertEqual(images((2, ((0, 0),), (False,)), (FOLD,)), nothing)
        self.assertEqual(images((2, ((None, None),), (True,)), (FOLD,)), (2, ((None, None),), (True,)))
        self.assertEqual(images(chain(6, 2), (("stop", "a"), FOLD)), smallest(
            (2, tuple((None, n + 1 if n < 5 else None) for n in range(6)), (True,) * 6)))
        self.assertEqual(images(EVERY, ()), EVERY)

    def test_at_the_bound(self):
        found = images(EVERY, cuts(19, 19))
        self.assertEqual(len(found[1]), 400)
        self.assertTrue(holds(found, "ab" * 19) and not holds(found, "ab" * 19 + "a"))
        # Behind one "c" the same: one state more.
        kind = (3, ((None, None, 1), (1, 1, None)), (False, True))
        line = (("cut", (1, 0, 0), 19), ("cut", (0, 1, 0), 19))
        self.assertIs(timed(images, kind, line), TooGreat)
        self.assertEqual(len(images(kind, (("cut", (1, 0, 0), 18), ("cut", (0, 1, 0), 19)))[1]), 381)
        for one, other in ((20, 19), (19, 20), (30, 30)):
            self.assertIs(timed(images, EVERY, cuts(one, other)), TooGreat)


class Sources(unittest.TestCase):
    def test_against_all_words(self):
        chance = random.Random(923)
        lengths = {1: 12, 2: 7, 3: 4}
        for _ in range(400):
            letters = chance.choice((1, 2, 2, 3))
            target, line = some_kind(chance, letters), random_line(chance, letters)
            found = timed(sources, target, line)
            if found is TooGreat:
                continue
            for word in words_up_to(letters, lengths[letters]):
                self.assertEqual(holds(found, word), holds(target, naive_image(line, word)), (target, line, word))
            self.assertEqual(naive_smallest(found), found)

    def test_of_no_word(self):
        nothing = (2, ((None, None),), (False,))
        self.assertEqual(sources((2, ((1, 0), (0, 1)), (False, False)), (FOLD,)), nothing)
        self.assertEqual(sources((2, ((0, None),), (True,)), (FOLD,)), (2, ((None, None),), (True,)))
        self.assertEqual(sources(nothing, (("cut", (1, 1), 0),)), nothing)
        self.assertEqual(sources((2, ((None, None),), (True,)), (("cut", (1, 1), 0),)), EVERY)

    def test_at_the_bound(self):
        target = ring(400, (0, 7), 2)
        turn = ("pass", ((0, 0),), (("b", "a"),))
        self.assertEqual(sources(target, (turn,)), target)
        self.assertEqual(sources(blown_up(wheel(80, ((1, 1), (2, 1)), (3, 9)), 400, 1), (turn, turn)),
                         smallest(wheel(80, ((1, 1), (2, 1)), (3, 9))))
        # Behind a stop all is let: one state more.
        self.assertIs(timed(sources, target, (("stop", "b"),)), TooGreat)
        self.assertEqual(len(sources(ring(399, (0, 7), 2), (("stop", "b"),))[1]), 400)

    def test_too_great_only_where_it_is(self):
        chance = random.Random(924)
        raised = 0
        for _ in range(8):
            target = random_machine(chance, 400, 2, 0, 0.5)
            line = tuple(random_step(chance, 2) for _ in range(3))
            found = timed(sources, target, line)
            if found is TooGreat:
                raised += 1
                self.assertTrue(has_many_states(target, line))
            else:
                self.assertLessEqual(len(found[1]), 400)
        self.assertGreater(raised, 0)


def has_many_states(target, line):
    """Whether more than 400 beginnings are told apart by the words that follow."""
    signs = set()
    for head in words_up_to(2, 12):
        signs.add(tuple(holds(target, image(line, head + tail)) for tail in TAILS))
        if len(signs) > 400:
            return True
    return False


class GreatestImage(unittest.TestCase):
    def test_against_images(self):
        chance = random.Random(925)
        lengths = {1: 12, 2: 7, 3: 5}
        seen = {}
        for _ in range(400):
            letters = chance.choice((1, 2, 2, 3))
            kind, line, form = some_kind(chance, letters), random_line(chance, letters), random_form(chance, letters)
            found, held = greatest_image(kind, line, form), timed(images, kind, line)
            if held is TooGreat:
                continue
            wanted = greatest(held, form)
            seen[found[0]] = seen.get(found[0], 0) + 1
            if wanted[0] != "most":
                self.assertEqual(found, wanted[:1])
                continue
            self.assertEqual(found[:2], wanted[:2])
            self.assertEqual(value_of(form, image(line, found[2])), found[1])
            self.assertTrue(holds(kind, found[2]))
            first = first_of(words_of(kind, lengths[letters]), lambda word: value_of(form, image(line, word)) == found[1])
            self.assertTrue(first == found[2] or first is None and len(found[2]) > lengths[letters], (kind, line, form))
        self.assertTrue(all(seen[name] > 20 for name in ("none", "most", "ring")))

    def test_words_of_the_kind_not_images(self):
        self.assertEqual(greatest_image(EVERY, (("pass", ((0, 0),), (("b", "a"),)), ("cut", (0, 1), 2)), (0, 5)),
                         ("most", 10, "aa"))
        self.assertEqual(greatest_image((2, ((1, 1), (0, 0)), (False, True)), (("stop", "a"),), (-3, -1)),
                         ("most", 0, "a"))
        self.assertEqual(greatest_image(EVERY, (("stop", "a"),), (9, 1)), ("ring",))
        self.assertEqual(greatest_image((2, ((0, 0),), (False,)), (), (1, 1)), ("none",))
        self.assertEqual(greatest_image((2, ((None, None),), (True,)), (FOLD,), (-1, -1)), ("most", 0, ""))

    def test_rings_that_lead_to_no_word(self):
        kind = (2, ((1, 2), (1, None), (None, None)), (False, False, True))
        self.assertEqual(greatest_image(kind, (), (5, 1)), ("most", 1, "b"))
        self.assertEqual(greatest_image(kind[:2] + ((False, True, True),), (), (5, 1)), ("ring",))
        # A ring behind another one, which loses.
        for form in ((-1, 5), (0, 1), (-99, 99)):
            self.assertEqual(greatest_image((2, ((1, None), (0, 2), (None, 2)), (False, False, True)), (), form), ("ring",))
        # What is cut off is worth nothing.
        self.assertEqual(greatest_image(kind[:2] + ((False, True, True),), (("cut", (7, 0), 30),), (5, 1)),
                         ("most", 20, "aaaa"))

    def test_where_images_are_too_great(self):
        self.assertIs(timed(images, EVERY, cuts(20, 25)), TooGreat)
        self.assertEqual(greatest_image(EVERY, cuts(20, 25), (1, 2)), ("most", 70, "a" * 20 + "b" * 25))
        three = (("cut", (1, 0, 0), 30), ("cut", (0, 1, 0), 30), ("cut", (0, 0, 1), 30))
        self.assertIs(timed(images, all_words(3), three), TooGreat)
        self.assertEqual(timed(greatest_image, all_words(3), three, (1, -1, 1)), ("most", 60, "a" * 30 + "c" * 30))
        self.assertEqual(timed(greatest_image, all_words(3), three, (1, 1, 99)),
                         ("most", 3030, "a" * 30 + "b" * 30 + "c" * 30))

    def test_a_late_word(self):
        kind = (2, ((1, 1), (2, 2), (3, 3), (4, 4), (5, 5), (0, 0)), (False, True) + (False,) * 4)
        self.assertEqual(greatest_image(kind, (("cut", (0, 1), 30),), (-1, 1)), ("most", 30, "b" * 31))
        found = greatest_image(kind, (("cut", (0, 1), 30), ("cut", (0, 2), 30)), (1, -1))
        self.assertEqual(found, ("ring",))


class Great(unittest.TestCase):
    def test_great_sizes(self):
        chance = random.Random(926)
        for seed in range(20):
            letters = chance.choice((2, 3))
            kind = wheel(6, ((1, 1), (1, 2), (5, 1))[:letters], range(seed % 3, 6))
            line = tuple(random_step(chance, letters) for _ in range(3))
            found = timed(images, kind, line)
            if found is not TooGreat:
                self.assertIsNone(apart(found, smallest(found)))
            timed(sources, random_machine(chance, 400, letters, 0.01, 0.9), line)
            timed(sources, blown_up(random_machine(chance, 30, letters, 0, 0.99), 400, seed), line)
            told = timed(greatest_image, kind, line, random_form(chance, letters))
            self.assertIn(told[0], ("none", "most", "ring"))

    def test_sources_and_leaves(self):
        chance = random.Random(927)
        for _ in range(100):
            kind, line = some_kind(chance, 2), random_line(chance, 2)
            target, form = random_machine(chance, 5, 2, 0.1, 0.7), random_form(chance, 2)
            # What leaves the target is what is of the kind and not of its sources.
            found = timed(sources, target, line)
            if found is not TooGreat:
                self.assertEqual(leaves(kind, line, target), apart(less(kind, found), less(kind, kind)))
            told = greatest_image(kind, line, form)
            if told[0] == "most":
                self.assertEqual(worth(form, image(line, told[2])), told[1])


if __name__ == "__main__":
    unittest.main()
