"""order_paper, paper_holds (point 13)."""

import copy
import random
import unittest

from sortedshelves.comps import by_length, by_ranks, turned
from sortedshelves.orders import first_fault, order_paper, paper_holds
from tests.naive import (
    LOOKS, all_words, naive_paper_holds, some_comp, some_kind, steps_on, stops_well, sums,
)
from tests.reference import changed, random_comp, random_machine, timed, wheel

ONE = (1, ((0,),), (True,))
EMPTY = (1, ((None,),), (True,))


def orders(seed, many):
    """So many kinds with orders on them, and papers."""
    chance = random.Random(seed)
    found = []
    while len(found) < many:
        letters = chance.choice((1, 1, 2, 3))
        kind, comp = some_kind(chance, letters, 4), some_comp(chance, letters, 4)
        paper = order_paper(kind, comp)
        if paper is not None and len(paper[2]) < 400:
            found.append((kind, comp, paper))
    return found


def fuller(chance, kind, comp, paper):
    """The paper with more items, and what is behind them, in one of its parts; whether all still hold."""
    at = chance.randrange(3)
    many = len(LOOKS[at])
    stands = range(-1, len(kind[1]))
    waiting = [(tuple(chance.choice(stands) for _ in range(many)),
                tuple(chance.randrange(len(comp[1])) for _ in range(many))) for _ in range(chance.randint(1, 3))]
    items = set(paper[at])
    while waiting:
        item = waiting.pop()
        if item not in items:
            items.add(item)
            waiting += steps_on(kind, comp, *item, LOOKS[at])
    good = all(stops_well(kind, comp, item) for item in items)
    return paper[:at] + (tuple(sorted(items)),) + paper[at + 1:], good


class OrderPaper(unittest.TestCase):
    def test_just_where_it_is_an_order(self):
        chance = random.Random(941)
        told = {True: 0, False: 0}
        for _ in range(600):
            letters = chance.choice((1, 2, 2, 3))
            kind, comp = some_kind(chance, letters, 5), some_comp(chance, letters)
            paper = order_paper(kind, comp)
            self.assertIs(paper is None, first_fault(kind, comp) is not None)
            told[paper is None] += 1
            if paper is not None:
                self.assertIs(paper_holds(kind, comp, paper), True, (kind, comp))
                self.assertTrue(naive_paper_holds(kind, comp, paper), (kind, comp))
        self.assertGreater(min(told.values()), 100)

    def test_faults_behind_states_that_lead_to_no_end(self):
        # Words that lead to no end show nothing, whatever is told of them.
        kind = (2, ((0, 1), (1, 1)), (True, False))
        comp = (2, ((0, 1, 0, 1, 1, 1, 0, 1), (1,) * 8), (0, 1))
        self.assertIsNone(first_fault(kind, comp))
        paper = order_paper(kind, comp)
        self.assertTrue(paper_holds(kind, comp, paper) and naive_paper_holds(kind, comp, paper))

    def test_kinds_without_words(self):
        kind, wrong = (1, ((0,),), (False,)), (1, ((0, 0, 0),), (1,))
        paper = order_paper(kind, wrong)
        self.assertTrue(paper_holds(kind, wrong, paper) and naive_paper_holds(kind, wrong, paper))
        self.assertIsNone(order_paper(EMPTY, wrong))


class PaperHolds(unittest.TestCase):
    def test_papers_with_parts_changed(self):
        chance = random.Random(942)
        held = {True: 0, False: 0}
        for kind, comp, paper in orders(942, 60):
            for _ in range(40):
                value = changed(chance, paper)
                if chance.random() < 0.3:
                    value = changed(chance, value)
                kept = copy.deepcopy(value)
                found = paper_holds(kind, comp, value)
                self.assertIs(found, naive_paper_holds(kind, comp, value), (kind, comp, value))
                self.assertEqual(repr(value), repr(kept))
                held[found] += 1
        self.assertGreater(held[False], 500)

    def test_items_left_out_put_twice_exchanged_or_out_of_order(self):
        chance = random.Random(943)
        for kind, comp, paper in orders(943, 40):
            for at, part in enumerate(paper):
                k = chance.randrange(len(part))
                for value in (part[:k] + part[k + 1:], part[:k + 1] + part[k:], part[1:] + part[:1], part[::-1]):
                    value = paper[:at] + (value,) + paper[at + 1:]
                    self.assertIs(paper_holds(kind, comp, value), naive_paper_holds(kind, comp, value))
                if len(part) > 1:
                    self.assertFalse(paper_holds(kind, comp, paper[:at] + (part[::-1],) + paper[at + 1:]))
                self.assertFalse(paper_holds(kind, comp, paper[:at] + (part[:1] + part,) + paper[at + 1:]))

    def test_fuller_papers(self):
        chance = random.Random(944)
        held = {True: 0, False: 0}
        for kind, comp, paper in orders(944, 80):
            for _ in range(4):
                value, good = fuller(chance, kind, comp, paper)
                self.assertIs(paper_holds(kind, comp, value), good, (kind, comp, value))
                self.assertIs(naive_paper_holds(kind, comp, value), good)
                held[good] += value != paper
        self.assertGreater(min(held.values()), 20)

    def test_items_of_words_that_have_all_ended(self):
        comp = by_length(1)
        paper = order_paper(ONE, comp)
        for at, item in enumerate((((-1,), (0,)), ((-1, -1), (0, 0)), ((-1,) * 3, (0,) * 3))):
            value = paper[:at] + (tuple(sorted(set(paper[at]) | {item})),) + paper[at + 1:]
            self.assertIs(paper_holds(ONE, comp, value), True)
        # Their verdicts are asked, too.
        for at, item in enumerate((((-1,), (1,)), ((-1, -1), (0, 1)), ((-1,) * 3, (0, 0, 2)))):
            value = paper[:at] + (tuple(sorted(set(paper[at]) | {item})),) + paper[at + 1:]
            self.assertIs(paper_holds(ONE, comp, value), False)
        for item in (((-1,) * 3, (0, 2, 2)), ((-1,) * 3, (1, 1, 0)), ((-1,) * 3, (2, 2, 2))):
            value = paper[:2] + (tuple(sorted(set(paper[2]) | {item})),)
            self.assertIs(paper_holds(ONE, comp, value), True)

    def test_values_of_other_forms(self):
        comp = by_length(1)
        selfs, turns, chains = paper = order_paper(ONE, comp)
        self.assertTrue(paper_holds(ONE, comp, paper))
        wrong = [
            None, True, 0, "", (), [], {}, (selfs, turns), paper + ((),), list(paper), (list(selfs), turns, chains),
            (turns, selfs, chains), ((), turns, chains), (selfs, (), chains), (selfs, turns, ()), (None, turns, chains),
            ((((0,), (0,)), None), turns, chains), ((([0], (0,)),), turns, chains), ((((0,), [0]),), turns, chains),
            (([(0,), (0,)],), turns, chains), ((((False,), (0,)),), turns, chains), ((((0,), (False,)),), turns, chains),
            ((((0,), (0,), ()),), turns, chains), ((((0,),),), turns, chains), ((((0, 0), (0,)),), turns, chains),
            ((((0,), (0, 0)),), turns, chains), ((((1,), (0,)),), turns, chains), ((((0,), (3,)),), turns, chains),
            ((((-2,), (0,)), ((0,), (0,))), turns, chains), ((((0,), (-1,)), ((0,), (0,))), turns, chains),
            ((((0,), (0,)), ((1,), (0,))), turns, chains), ((((0,), (0,)), ((0,), (3,))), turns, chains),
            ((((0,), (0,)), ((0,), ("0",))), turns, chains), ((((0,), (0,)), ((10 ** 59,), (0,))), turns, chains),
            ((((0,), (0,)), ((0,), (True,))), turns, chains), (selfs, turns, chains[0]), paper[0], str(paper), {0: paper},
        ]
        for value in wrong:
            self.assertIs(paper_holds(ONE, comp, value), False, value)
            self.assertFalse(naive_paper_holds(ONE, comp, value))

    def test_papers_of_other_kinds_and_comparisons(self):
        found = orders(945, 30)
        for kind, comp, _ in found:
            for _, _, paper in found:
                self.assertIs(paper_holds(kind, comp, paper), naive_paper_holds(kind, comp, paper))

    def test_never_where_it_is_no_order(self):
        # A paper is a proof, so none of these may hold, whoever made it.
        chance = random.Random(946)
        for _ in range(200):
            letters = chance.choice((1, 2))
            kind, comp = some_kind(chance, letters, 3), random_comp(chance, letters, chance.randint(1, 3))
            if first_fault(kind, comp) is None:
                continue
            full = []
            for looks in LOOKS:
                items, waiting = set(), [((0,) * len(looks),) * 2]
                while waiting:
                    item = waiting.pop()
                    if item not in items:
                        items.add(item)
                        waiting += steps_on(kind, comp, *item, looks)
                full.append(tuple(sorted(item for item in items if chance.random() < 0.9 or stops_well(kind, comp, item))))
            self.assertIs(paper_holds(kind, comp, tuple(full)), False)
            self.assertIs(paper_holds(kind, comp, order_paper(kind, (comp[0], comp[1], (0,) * len(comp[1])))), False)

    def test_chains_go_on_by_the_right_columns(self):
        kind, comp = all_words(2), by_ranks(2, (0, 1))
        paper = order_paper(kind, comp)
        self.assertTrue(paper_holds(kind, comp, paper))
        rows = {item[1] for item in paper[2]}
        # Of the three rows the third one tells of the first word and the third one.
        self.assertTrue((1, 1, 1) in rows and (1, 2, 0) in rows and (1, 0, 1) in rows)
        self.assertFalse((1, 1, 2) in rows or (1, 0, 2) in rows or (2, 2, 1) in rows)
        self.assertTrue(paper_holds(kind, turned(turned(comp)), paper))


class Great(unittest.TestCase):
    def test_great_sizes(self):
        chance = random.Random(947)
        for letters in (2, 3):
            kind, comp = wheel(6, ((1, 1), (1, 2), (5, 1))[:letters], (0, 2, 3)), sums(letters, 6, (1, 2, 4))
            paper = timed(order_paper, kind, comp)
            self.assertIs(timed(paper_holds, kind, comp, paper), True)
            for _ in range(3):
                at = chance.randrange(3)
                k = chance.randrange(len(paper[at]))
                value = paper[:at] + (paper[at][:k] + paper[at][k + 1:],) + paper[at + 1:]
                self.assertIs(timed(paper_holds, kind, comp, value), False)
            self.assertIn(timed(paper_holds, random_machine(chance, 6, letters), comp, paper), (True, False))


if __name__ == "__main__":
    unittest.main()
