"""comp_error, tells, by_ranks, by_length, turned and then of point 11."""

import copy
import random
import unittest

from sortedshelves import comps
from sortedshelves.comps import by_length, by_ranks, comp_error, tells, then, turned
from sortedshelves.errors import ShelfError, TooGreat, Unlike
from tests.reference import changed, columns_of, naive_tells, random_comp, random_word, timed, words_up_to

PLAIN = by_ranks(2, (0, 1))
WIDE = {1: 3, 2: 8, 3: 15}


def cases(seed, many, rows=6):
    chance = random.Random(seed)
    for _ in range(many):
        letters = chance.randint(1, 3)
        yield chance, letters, random_comp(chance, letters, chance.randint(1, rows))


def ring_comp(letters, rows, verdicts=None):
    """Each column leads one row on, from the last one to the first."""
    return (letters, tuple(((row + 1) % rows,) * WIDE[letters] for row in range(rows)), verdicts or (0,) * rows)


def naive_error(value):
    if value.__class__ is not tuple or len(value) != 3:
        return "comp"
    letters, rows, verdicts = value
    if letters.__class__ is not int or letters not in (1, 2, 3):
        return "letters"
    if rows.__class__ is not tuple or not 1 <= len(rows) <= 60:
        return "rows"
    for row in rows:
        if row.__class__ is not tuple or len(row) != WIDE[letters]:
            return "rows"
        if any(item.__class__ is not int or not 0 <= item < len(rows) for item in row):
            return "rows"
    if verdicts.__class__ is not tuple or len(verdicts) != len(rows):
        return "verdicts"
    if any(item.__class__ is not int or item not in (-1, 0, 1) for item in verdicts):
        return "verdicts"
    return None


class CompError(unittest.TestCase):
    def refuses(self, part, *values):
        for value in values:
            self.assertEqual(comp_error(value), part, value)

    def test_comparisons(self):
        for _, _, comp in cases(501, 200, rows=60):
            self.assertIsNone(comp_error(comp))
        self.refuses(None, PLAIN, by_length(1), by_length(3), (1, ((0, 0, 0),), (-1,)), ring_comp(3, 60))

    def test_60_and_61_rows(self):
        for letters in (1, 2, 3):
            self.assertIsNone(comp_error(ring_comp(letters, 60)))
            self.refuses("rows", ring_comp(letters, 61), ring_comp(letters, 300))
        self.refuses("rows", (1, (), ()))

    def test_comp(self):
        self.refuses(
            "comp", None, True, 0, "", "abc", (), (1,), PLAIN[:2], PLAIN + (None,), list(PLAIN), {},
            {0: 2, 1: (), 2: ()}, [1, 2, 3], (PLAIN,), [PLAIN], (1, 2, 3, 4), 10 ** 59, "a" * 5000,
        )

    def test_letters(self):
        for letters in (None, True, False, 0, 4, -1, 10 ** 59, "2", "a", (2,), [2], {}, ()):
            self.refuses("letters", (letters,) + PLAIN[1:])
        self.refuses("letters", (True, ((0, 0, 0),), (0,)), (0, ((),), (0,)))

    def test_rows(self):
        for letters in (1, 2, 3):
            for wide in (0, 1, 2, 3, 4, 7, 8, 9, 14, 15, 16):
                self.refuses(None if wide == WIDE[letters] else "rows", (letters, ((0,) * wide,), (0,)))
        for rows in (
            None, True, 1, "abc", (), [], [(0, 0, 0)], {0: (0, 0, 0)}, ([0, 0, 0],), ((0, 0, 1),), ((0, 0, -1),),
            ((0, 0, None),), ((0, 0, False),), ((True, 0, 0), (0, 0, 0)), ((0, 0, "0"),), ((0, 0, (0,)),), ("000",),
            (0, 0, 0), ((0, 0, 10 ** 59),), ((0, 0, 0), None), ((0, 0, 0), (0, 0)), ((0, 0, 2), (0, 0, 0)),
            ({0: 0, 1: 0, 2: 0},),
        ):
            self.refuses("rows", (1, rows, (0,)), (1, rows, (0, 0)))

    def test_verdicts(self):
        rows = ((0, 0, 0), (1, 1, 1))
        for verdicts in (
            None, True, 0, "01", (), (0,), (0, 0, 0), [0, 0], {0: 0, 1: 0}, (0, 2), (0, -2), (True, 0), (0, False),
            (0, None), (0, "0"), (0, (0,)), (0, [0]), (0, 10 ** 59), ("less", "more"), ((0, 0),),
        ):
            self.refuses("verdicts", (1, rows, verdicts))
        self.refuses(None, (1, rows, (1, -1)))

    def test_the_first_is_told(self):
        self.refuses("comp", [None] * 3, (None, None), (None,) * 4)
        self.refuses("letters", (None, None, None), (4, (), ()), (True, ((0, 0, 1),), None))
        self.refuses("rows", (1, None, None), (2,) + by_length(1)[1:], (1, ((0, 0, 1),), (5,)), (3,) + PLAIN[1:])
        self.refuses("verdicts", (1, ((0, 0, 0),), None), (1, ((0, 0, 0),), (0, 0)))

    def test_any_values(self):
        told = {}
        for chance, _, comp in cases(502, 4000):
            value = comp
            for _ in range(chance.randint(0, 2)):
                value = changed(chance, value)
            kept = copy.deepcopy(value)
            found = comp_error(value)
            self.assertEqual(found, naive_error(value), value)
            self.assertEqual(comp_error(value=value), found)
            self.assertEqual(value, kept)
            told[found] = told.get(found, 0) + 1
        for error in (None, "comp", "letters", "rows", "verdicts"):
            self.assertGreater(told[error], 100)

    def test_nested_values(self):
        deep = ()
        for _ in range(18):
            deep = (deep,)
        self.refuses("comp", deep, [deep] * 3, {0: deep})
        self.refuses("letters", (deep, deep, deep))
        self.refuses("rows", (1, deep, deep), (1, ((0, 0, deep),), deep))
        self.refuses("verdicts", (1, ((0, 0, 0),), deep), (1, ((0, 0, 0),), (deep,)))
        self.refuses("rows", (3, ((0,) * 15,) * 400, (0,) * 400))


class Tells(unittest.TestCase):
    def test_small_words(self):
        for chance, letters, comp in cases(503, 60):
            words = words_up_to(letters, 3)
            for one in words:
                other = chance.choice(words)
                for left, right in ((one, other), (one, one), (one, ""), ("", one)):
                    self.assertEqual(tells(comp, left, right), naive_tells(comp, left, right))

    def test_the_empty_words(self):
        for _, _, comp in cases(504, 50):
            self.assertEqual(tells(comp, "", ""), comp[2][0])

    def test_words_of_unlike_lengths(self):
        for chance, letters, comp in cases(505, 200):
            one = random_word(chance, letters, chance.randint(0, 9))
            other = random_word(chance, letters, chance.randint(10, 30))
            self.assertEqual(tells(comp, one, other), naive_tells(comp, one, other))
            self.assertEqual(tells(comp, other, one), naive_tells(comp, other, one))

    def test_words_of_hundreds_of_letters(self):
        for chance, letters, comp in cases(506, 60, rows=60):
            one, other = (random_word(chance, letters, chance.randint(200, 900)) for _ in range(2))
            self.assertEqual(tells(comp, one, other), naive_tells(comp, one, other))
        self.assertEqual(tells(PLAIN, "a" * 900 + "b", "a" * 901), 1)
        self.assertEqual(tells(PLAIN, "a" * 900, "a" * 901), -1)
        self.assertEqual(timed(tells, ring_comp(2, 3, (0, 1, -1)), "a" * 200000, "b" * 100), -1)

    def test_each_column(self):
        # A row for each column, to which just this column leads from row 0.
        for letters in (1, 2, 3):
            columns = columns_of(letters)
            rows = (tuple(range(1, len(columns) + 1)),) + tuple((0,) * len(columns) for _ in columns)
            for at, column in enumerate(columns):
                verdicts = tuple(1 if row == at + 1 else 0 for row in range(len(rows)))
                one, other = column[0].strip("."), column[1].strip(".")
                self.assertEqual(tells((letters, rows, verdicts), one, other), 1)

    def test_results(self):
        for _, _, comp in cases(507, 30):
            self.assertIs(tells(comp, "a", "").__class__, int)
        kept = copy.deepcopy(PLAIN)
        self.assertEqual(tells(comp=PLAIN, one="ab", other="b"), -1)
        self.assertEqual(PLAIN, kept)


class ByRanks(unittest.TestCase):
    def test_words(self):
        chance = random.Random(508)
        for _ in range(60):
            letters = chance.randint(1, 3)
            ranks = tuple(chance.choice((-10 ** 59, -1, 0, 1, 5, 10 ** 59)) for _ in range(letters))
            comp = by_ranks(letters, ranks)
            self.assertIsNone(comp_error(comp))
            for one in words_up_to(letters, 3):
                other = random_word(chance, letters, chance.randint(0, 4))
                left, right = [ranks["abc".index(s)] for s in one], [ranks["abc".index(s)] for s in other]
                self.assertEqual(tells(comp, one, other), (left > right) - (left < right))

    def test_the_very_comparison(self):
        self.assertEqual(by_ranks(2, (0, 1)), (2, ((0, 1, 2, 2, 0, 2, 1, 1), (1,) * 8, (2,) * 8), (0, -1, 1)))
        self.assertEqual(by_ranks(2, (7, 7)), (2, ((0, 0, 2, 0, 0, 2, 1, 1), (1,) * 8, (2,) * 8), (0, -1, 1)))
        self.assertEqual(by_ranks(1, (-5,)), (1, ((0, 2, 1), (1,) * 3, (2,) * 3), (0, -1, 1)))
        self.assertEqual(by_ranks(letters=3, ranks=(2, 1, 2)), (
            3, ((0, 2, 0, 2, 1, 0, 1, 2, 0, 2, 0, 2, 1, 1, 1), (1,) * 15, (2,) * 15), (0, -1, 1)))

    def test_by_length(self):
        for letters in (1, 2, 3):
            self.assertEqual(by_length(letters), by_ranks(letters, (4,) * letters))
            for one in words_up_to(letters, 3):
                for other in words_up_to(letters, 3):
                    self.assertEqual(tells(by_length(letters), one, other),
                                     (len(one) > len(other)) - (len(one) < len(other)))
        self.assertEqual(by_length(letters=1), (1, ((0, 2, 1), (1, 1, 1), (2, 2, 2)), (0, -1, 1)))


class Turned(unittest.TestCase):
    def test_words(self):
        for chance, letters, comp in cases(509, 100):
            kept = copy.deepcopy(comp)
            found = turned(comp)
            self.assertEqual(found[:2], comp[:2])
            self.assertIsNone(comp_error(found))
            for _ in range(20):
                one, other = (random_word(chance, letters, chance.randint(0, 5)) for _ in range(2))
                self.assertEqual(tells(found, one, other), -tells(comp, one, other))
            self.assertEqual(turned(comp=found), comp)
            self.assertEqual(comp, kept)

    def test_the_very_comparison(self):
        self.assertEqual(turned(by_length(1)), (1, ((0, 2, 1), (1, 1, 1), (2, 2, 2)), (0, 1, -1)))


class Then(unittest.TestCase):
    def pairs(self, one, other):
        """The pairs in the order of the first columns that lead to them, from the words of columns on."""
        found, at = [(0, 0)], 0
        while at < len(found):
            left, right = found[at]
            for column in range(len(one[1][0])):
                pair = (one[1][left][column], other[1][right][column])
                if pair not in found:
                    found.append(pair)
            at += 1
        return found

    def test_words(self):
        for chance, letters, one in cases(510, 150):
            other = random_comp(chance, letters, chance.randint(1, 6))
            kept = copy.deepcopy((one, other))
            found = then(one, other)
            self.assertIsNone(comp_error(found))
            self.assertEqual(then(one, other), found)
            for _ in range(30):
                left, right = (random_word(chance, letters, chance.randint(0, 5)) for _ in range(2))
                self.assertEqual(tells(found, left, right), tells(one, left, right) or tells(other, left, right))
            self.assertEqual((one, other), kept)

    def test_the_very_comparison(self):
        for chance, letters, one in cases(511, 150):
            other = random_comp(chance, letters, chance.randint(1, 6))
            pairs = self.pairs(one, other)
            found = then(one, other)
            self.assertEqual(found[0], letters)
            self.assertEqual(len(found[1]), len(pairs))
            for (left, right), row, verdict in zip(pairs, found[1], found[2]):
                self.assertEqual(row, tuple(pairs.index(pair) for pair in zip(one[1][left], other[1][right])))
                self.assertEqual(verdict, one[2][left] or other[2][right])
        # The row for "a." is come to ahead of the one for ".a".
        rows = ((0, 1, 2), (1, 1, 1), (2, 2, 2))
        self.assertEqual(then(by_length(1), turned(by_length(1))), (1, rows, (0, 1, -1)))
        self.assertEqual(then((1, ((0, 0, 0),), (0,)), turned(by_length(1))), (1, rows, (0, -1, 1)))
        self.assertEqual(then((1, ((0, 0, 0),), (1,)), by_length(1)), (1, rows, (1, 1, 1)))

    def test_just_60_pairs(self):
        found = then(ring_comp(2, 4), ring_comp(2, 15))
        self.assertEqual(found, ring_comp(2, 60))
        self.assertEqual(then(ring_comp(3, 60), ring_comp(3, 60)), ring_comp(3, 60))
        self.assertEqual(then(ring_comp(1, 60), ring_comp(1, 30)), ring_comp(1, 60))
        marked = then(ring_comp(1, 4, (0, 0, 0, 1)), ring_comp(1, 15, (-1,) + (0,) * 14))
        for length in range(130):
            self.assertEqual(tells(marked, "a" * length, ""), 1 if length % 4 == 3 else -1 if length % 15 == 0 else 0)

    def test_more_than_60_pairs(self):
        for one, other in ((8, 9), (60, 59), (60, 7), (7, 60), (3, 61), (61, 1), (122, 61)):
            with self.assertRaises(TooGreat) as caught:
                then(ring_comp(2, one), ring_comp(2, other))
            self.assertIs(caught.exception.__class__, TooGreat)
            self.assertIsInstance(caught.exception, ShelfError)
        # Just 61 pairs: a tail of one pair, and a ring of 60.
        tail = (1, ((1, 1, 1),) + tuple((row % 4 + 1,) * 3 for row in range(1, 5)), (0,) * 5)
        with self.assertRaises(TooGreat):
            then(tail, ring_comp(1, 15))
        self.assertEqual(len(then(ring_comp(1, 4), ring_comp(1, 15))[1]), 60)
        chance = random.Random(512)
        for letters in (1, 2, 3):
            with self.assertRaises(TooGreat):
                timed_then(random_comp(chance, letters, 60), random_comp(chance, letters, 60))

    def test_pairs_that_are_not_come_to_do_not_count(self):
        # Of 60 rows each all but the first ones are never come to.
        far = (2, ((0,) * 8,) + tuple(((row + 1) % 60,) * 8 for row in range(1, 60)), (0,) * 60)
        self.assertEqual(then(far, far), (2, ((0,) * 8,), (0,)))
        self.assertEqual(then(far, PLAIN), PLAIN)

    def test_unlike_goes_ahead(self):
        for one in (1, 2, 3):
            for other in (1, 2, 3):
                if one != other:
                    for left, right in ((1, 1), (60, 59)):
                        with self.assertRaises(Unlike) as caught:
                            then(ring_comp(one, left), ring_comp(other, right))
                        self.assertIs(caught.exception.__class__, Unlike)

    def test_by_name(self):
        self.assertEqual(then(other=by_length(2), one=PLAIN), then(PLAIN, by_length(2)))
        self.assertNotEqual(then(PLAIN, by_length(2)), then(by_length(2), PLAIN))

    def test_orders_one_behind_another(self):
        strict = then(by_length(2), PLAIN)
        words = words_up_to(2, 4)
        for at, one in enumerate(words):
            for beside, other in enumerate(words):
                self.assertEqual(tells(strict, one, other), (at > beside) - (at < beside))


def timed_then(one, other):
    """then, with its error, within seconds."""
    found = timed(comps.then, one, other)
    if found is TooGreat:
        raise TooGreat()
    return found


if __name__ == "__main__":
    unittest.main()
