"""breach and most_kept of point 6."""

import copy
import random
import unittest

from sortedshelves.forms import above, greatest
from sortedshelves.limits import breach, most_kept
from tests.reference import (
    chain, holds, keeping, knotted_machine, naive_breach, naive_greatest, random_form, random_machine, random_unit,
    ring, shuffled, timed, value_of, wheel,
)

KIND = (2, ((0, 1), (0, None)), (True, True))
NOTHING = (2, ((0, 1), (1, None)), (False, False))
EVERY = (3, ((0, 0, 0),), (True,))


def cases(seed, many):
    chance = random.Random(seed)
    for _ in range(many):
        letters, states = chance.randint(1, 3), chance.randint(1, 5)
        machine = random_machine(chance, states, letters, chance.random() * 0.7, chance.random())
        yield chance, machine


def knotted_cases(seed, many):
    """Machines with several rings, and units by which some of their letters do not count."""
    chance = random.Random(seed)
    for _ in range(many):
        letters = chance.randint(2, 3)
        units = [tuple(chance.choice((0, 0, 1, 2)) for _ in range(letters)) for _ in range(2)]
        yield chance, knotted_machine(chance, letters, chance.randint(2, 4)), *units


def random_limit(chance, letters, most=25):
    return (random_unit(chance, letters), chance.choice((0, 1, 2, 5, chance.randint(0, most))))


class Breach(unittest.TestCase):
    def test_small_machines(self):
        found = {True: 0, False: 0}
        for chance, machine in cases(301, 1200):
            one, other = random_limit(chance, machine[0]), random_limit(chance, machine[0])
            word = breach(machine, one, other)
            self.assertEqual(word, naive_breach(machine, one, other), (machine, one, other))
            self.assertEqual(breach(machine, one, other), word)
            found[word is None] += 1
        self.assertGreater(min(found.values()), 150)

    def test_rings_that_lead_to_rings(self):
        found = {True: 0, False: 0}
        for chance, machine, first, second in knotted_cases(308, 1000):
            one, other = (first, chance.randint(0, 6)), (second, chance.randint(0, 12))
            word = breach(machine, one, other)
            self.assertEqual(word, naive_breach(machine, one, other), (machine, one, other))
            found[word is None] += 1
        self.assertGreater(min(found.values()), 200)

    def test_most_200(self):
        for chance, machine in cases(302, 60):
            one, other = (random_unit(chance, machine[0]), 200), (random_unit(chance, machine[0]), 200)
            self.assertEqual(breach(machine, one, other), naive_breach(machine, one, other), (machine, one, other))
            other = (other[0], 0)
            self.assertEqual(breach(machine, one, other), naive_breach(machine, one, other), (machine, one, other))
            self.assertEqual(breach(machine, other, one), naive_breach(machine, other, one), (machine, one, other))

    def test_the_edges(self):
        self.assertIsNone(breach(KIND, ((1, 1), 0), ((9, 9), 0)))
        self.assertEqual(breach(KIND, ((1, 0), 0), ((9, 9), 0)), "b")
        self.assertEqual(breach(EVERY, ((0, 0, 0), 0), ((0, 0, 1), 200)), "c" * 201)
        self.assertEqual(breach(EVERY, ((0, 0, 1), 200), ((0, 0, 1), 199)), "c" * 200)
        self.assertIsNone(breach(EVERY, ((0, 0, 1), 199), ((0, 0, 1), 200)))
        self.assertIsNone(breach(EVERY, ((0, 0, 0), 0), ((0, 0, 0), 0)))
        self.assertIsNone(breach(EVERY, ((1, 2, 3), 200), ((1, 2, 3), 200)))
        self.assertEqual(breach(EVERY, ((1, 1, 1), 22), ((9, 9, 9), 197)), "a" * 22)
        self.assertIsNone(breach(EVERY, ((1, 1, 1), 22), ((9, 9, 9), 198)))
        self.assertIsNone(breach(NOTHING, ((0, 0), 200), ((9, 9), 0)))
        self.assertIsNone(breach((1, ((None,),), (True,)), ((0,), 0), ((9,), 0)))

    def test_letters_that_do_not_count(self):
        # "a" counts for none of both; it is needed to come on.
        machine = (2, ((1, None), (None, 0)), (True, False))
        self.assertEqual(breach(machine, ((0, 1), 5), ((0, 1), 3)), "ab" * 4)
        self.assertEqual(breach(machine, ((0, 0), 0), ((0, 2), 5)), "ab" * 3)
        # What keeps one is got by a way that is longer, and cheaper.
        detour = (3, ((1, 2, None), (None, None, 3), (2, None, 3), (None, None, None)), (False, False, False, True))
        self.assertEqual(breach(detour, ((1, 0, 1), 1), ((0, 1, 0), 0)), "bc")
        self.assertEqual(breach(detour, ((1, 0, 0), 1), ((1, 0, 0), 0)), "ac")
        self.assertEqual(breach(detour, ((0, 0, 1), 1), ((1, 1, 0), 1)), "bac")
        self.assertIsNone(breach(detour, ((0, 1, 1), 1), ((1, 1, 0), 1)))

    def test_the_word_keeps_one_and_not_other(self):
        for chance, machine in cases(303, 300):
            one, other = random_limit(chance, machine[0], 200), random_limit(chance, machine[0], 200)
            word = breach(machine, one, other)
            if word is not None:
                self.assertTrue(holds(machine, word))
                self.assertTrue(value_of(one[0], word) <= one[1] and value_of(other[0], word) > other[1])
            self.assertIsNone(breach(machine, one, one))

    def test_400_states(self):
        limits = (
            (((1, 1, 1), 200), ((0, 1, 2), 200)), (((1, 2, 3), 200), ((3, 2, 1), 200)),
            (((1, 0, 0), 200), ((0, 1, 0), 200)), (((0, 0, 0), 200), ((0, 0, 1), 200)),
            (((0, 0, 0), 0), ((9, 9, 9), 200)), (((9, 8, 7), 200), ((1, 2, 3), 67)),
            (((2, 3, 4), 200), ((4, 1, 5), 200)), (((1, 2, 3), 200), ((1, 2, 3), 199)),
            (((1, 0, 2), 0), ((0, 1, 1), 0)), (((1, 9, 3), 200), ((1, 9, 4), 200)),
        )
        machine = shuffled(wheel(400, ((1, 1), (1, 3), (3, 2)), {7}), 4)
        for one, other in limits:
            word = timed(breach, machine, one, other)
            self.assertTrue(holds(machine, word))
            self.assertTrue(value_of(one[0], word) <= one[1] and value_of(other[0], word) > other[1])
            self.assertIsNone(timed(breach, machine, one, one))
        self.assertIsNone(timed(breach, machine, ((1, 2, 0), 200), ((1, 0, 0), 200)))
        self.assertIsNone(timed(breach, ring(400, {399}, 3), ((1, 2, 3), 200), ((3, 2, 1), 200)))
        self.assertEqual(timed(breach, ring(400, {399}, 3), ((1, 0, 0), 200), ((0, 1, 0), 200)), "a" * 198 + "b" * 201)
        self.assertEqual(timed(breach, ring(400, {0}), ((0,), 0), ((1,), 200)), "a" * 400)

    def test_400_states_slowly(self):
        machine = shuffled(wheel(400, ((1, 1), (1, 3), (3, 2)), {7}), 6)
        for one, other in (
            (((1, 1, 1), 12), ((0, 1, 2), 14)), (((1, 0, 2), 6), ((2, 1, 0), 13)), (((0, 0, 0), 0), ((0, 1, 0), 9)),
            (((5, 0, 1), 9), ((5, 1, 0), 11)), (((9, 9, 9), 60), ((1, 1, 1), 6)),
        ):
            self.assertEqual(timed(breach, machine, one, other), naive_breach(machine, one, other))

    def test_by_name(self):
        self.assertEqual(breach(machine=KIND, one=((1, 2), 4), other=((1, 0), 2)), "aaa")


class MostKept(unittest.TestCase):
    def rings(self, machine, limit, form, found):
        self.assertEqual((found[0], len(found)), ("ring", 4))
        _, ahead, circle, behind = found
        self.assertGreater(value_of(form, circle), 0)
        self.assertEqual(value_of(limit[0], circle), 0)
        for times in (0, 1, 2, 7):
            word = ahead + times * circle + behind
            self.assertIs(holds(machine, word), True)
            self.assertLessEqual(value_of(limit[0], word), limit[1])

    def test_small_machines(self):
        told = {"none": 0, "most": 0, "ring": 0}
        for chance, machine in cases(304, 1500):
            limit, form = random_limit(chance, machine[0]), random_form(chance, machine[0])
            found = most_kept(machine, limit, form)
            self.assertEqual(most_kept(machine, limit, form), found)
            product = keeping(machine, limit)
            if len(product[1]) <= 6:
                wanted = naive_greatest(product, form)
            else:
                wanted = greatest(product, form)
            told[found[0]] += 1
            if wanted[0] == "ring":
                self.rings(machine, limit, form, found)
            else:
                self.assertEqual(found, wanted, (machine, limit, form))
        self.assertGreater(min(told.values()), 60)

    def test_rings_that_lead_to_rings(self):
        told = {"none": 0, "most": 0, "ring": 0}
        for chance, machine, unit, _ in knotted_cases(309, 500):
            limit, form = (unit, chance.randint(0, 6)), tuple(chance.randint(-3, 2) for _ in unit)
            found, wanted = most_kept(machine, limit, form), naive_greatest(keeping(machine, limit), form)
            told[found[0]] += 1
            if wanted[0] == "ring":
                self.rings(machine, limit, form, found)
            else:
                self.assertEqual(found, wanted, (machine, limit, form))
        self.assertGreater(min(told.values()), 50)

    def test_most_200(self):
        for chance, machine in cases(305, 60):
            limit, form = (random_unit(chance, machine[0]), 200), random_form(chance, machine[0])
            found, wanted = most_kept(machine, limit, form), greatest(keeping(machine, limit), form)
            if wanted[0] == "ring":
                self.rings(machine, limit, form, found)
            else:
                self.assertEqual(found, wanted, (machine, limit, form))

    def test_a_limit_that_all_keep(self):
        for chance, machine in cases(306, 100):
            form = random_form(chance, machine[0])
            limit = ((0,) * machine[0], chance.choice((0, 200)))
            found, wanted = most_kept(machine, limit, form), greatest(machine, form)
            if wanted[0] == "ring":
                self.rings(machine, limit, form, found)
            else:
                self.assertEqual(found, wanted)

    def test_the_edges(self):
        self.assertEqual(most_kept(NOTHING, ((1, 1), 200), (9, 9)), ("none",))
        self.assertEqual(most_kept(chain(3), ((1,), 1), (9,)), ("none",))
        self.assertEqual(most_kept(chain(3), ((1,), 2), (9,)), ("most", 18, "aa"))
        self.assertEqual(most_kept(chain(3), ((0,), 0), (9,)), ("most", 18, "aa"))
        self.assertEqual(most_kept(EVERY, ((1, 1, 1), 0), (99, 99, 99)), ("most", 0, ""))
        self.assertEqual(most_kept(EVERY, ((1, 1, 1), 200), (0, 99, 98)), ("most", 99 * 200, "b" * 200))
        self.assertEqual(most_kept(EVERY, ((9, 9, 9), 200), (-1, -1, 1)), ("most", 22, "c" * 22))
        self.assertEqual(most_kept(EVERY, ((1, 2, 3), 7), (1, 2, 3)), ("most", 7, "acc"))
        self.assertEqual(most_kept(EVERY, ((0, 1, 2), 3), (-1, 1, 3)), ("most", 4, "bc"))

    def test_rings_only_where_any_number_keeps_the_limit(self):
        self.assertEqual(most_kept(KIND, ((1, 0), 3), (1, 0)), ("most", 3, "aaa"))
        self.rings(KIND, ((0, 1), 0), (1, 0), most_kept(KIND, ((0, 1), 0), (1, 0)))
        # The ring that does not count is come to, or left, by too much only.
        far = (2, ((None, 1), (1, 2), (None, None)), (True, False, True))
        self.assertEqual(most_kept(far, ((0, 1), 1), (9, 1)), ("most", 0, ""))
        self.rings(far, ((0, 1), 2), (9, 1), most_kept(far, ((0, 1), 2), (9, 1)))
        self.assertEqual(most_kept(far, ((0, 9), 17), (9, 1)), ("most", 0, ""))
        self.rings(far, ((0, 9), 18), (9, 1), most_kept(far, ((0, 9), 18), (9, 1)))
        # Worth nothing, or less; leads to no end.
        self.assertEqual(most_kept(far, ((0, 1), 2), (0, 1)), ("most", 2, "bb"))
        self.assertEqual(most_kept(far, ((0, 1), 2), (-1, 1)), ("most", 2, "bb"))
        lost = (2, ((None, 1), (1, None)), (True, False))
        self.assertEqual(most_kept(lost, ((0, 1), 200), (9, 9)), ("most", 0, ""))

    def test_400_states(self):
        wheels = shuffled(wheel(400, ((1, 1), (1, 3), (3, 2)), {7}), 4)
        back = (3, tuple(((s - 1) % 400,) * 3 for s in range(400)), tuple(s == 5 for s in range(400)))
        for machine in (wheels, back, ring(400, {399}, 3)):
            for limit, form in (
                (((1, 2, 3), 200), (5, -5, 9)), (((0, 2, 3), 200), (-5, -5, 9)), (((0, 0, 1), 200), (-1, -2, 99)),
                (((0, 0, 0), 200), (-1, 0, 0)), (((9, 0, 0), 200), (99, -1, -1)), (((0, 0, 1), 0), (0, 0, 0)),
                (((1, 0, 0), 200), (7, 0, -1)), (((0, 0, 1), 200), (-1, 1, 99)), (((1, 0, 1), 0), (0, 1, 0)),
            ):
                found = timed(most_kept, machine, limit, form)
                if found[0] == "ring":
                    self.rings(machine, limit, form, found)
                elif found[0] == "most":
                    self.assertTrue(holds(machine, found[2]))
                    self.assertEqual(value_of(form, found[2]), found[1])
                    self.assertLessEqual(value_of(limit[0], found[2]), limit[1])
        self.assertEqual(timed(most_kept, ring(400, {399}, 3), ((0, 0, 1), 200), (-1, -2, 99)),
                         ("most", 99 * 200 - 199, "a" * 199 + "c" * 200))
        self.assertEqual(timed(most_kept, ring(400, {399}, 3), ((1, 2, 3), 200), (5, -5, 9)), ("none",))
        self.assertEqual(timed(most_kept, back, ((9, 9, 0), 200), (99, 99, 0)),
                         ("most", 22 * 99, "a" * 22 + "c" * 373))
        late = wheel(400, ((1, 1), (1, 3), (3, 2)), {399})
        self.assertEqual(timed(most_kept, late, ((9, 1, 0), 200), (0, 0, 0))[1:2], (0,))
        self.assertEqual(timed(most_kept, late, ((0, 0, 0), 0), (0, 0, 0))[2], above(late, (0, 0, 0), -1))

    def test_by_name(self):
        self.assertEqual(most_kept(machine=KIND, limit=((0, 1), 1), form=(-1, 5)), ("most", 5, "b"))


class Arguments(unittest.TestCase):
    def test_they_stay_as_they_are(self):
        for chance, machine in cases(307, 50):
            one, other = random_limit(chance, machine[0]), random_limit(chance, machine[0])
            kept = copy.deepcopy((machine, one, other))
            breach(machine, one, other)
            most_kept(machine, one, other[0])
            self.assertEqual((machine, one, other), kept)


if __name__ == "__main__":
    unittest.main()
