"""query_error, answers (point 15)."""

import copy
import random
import unittest

from sortedshelves.comps import by_length, by_ranks
from sortedshelves.queries import answers, query_error
from tests.naive import naive_answers, random_query, some_comp
from tests.reference import changed, random_word, words_up_to

FOLD = ("pass", ((0, 0),), (("b", "a"),))
EVERY = (2, ((0, 0),), (True,))


def is_text(value, letters, least, most):
    return isinstance(value, str) and least <= len(value) <= most and not set(value) - set("abc"[:letters])


def is_kind(value, letters):
    """Whether the value is a kind of these letters, by its definition."""
    if not isinstance(value, tuple) or len(value) != 3 or isinstance(value[0], bool) or value[0] != letters:
        return False
    held, rows, ends = value
    if not isinstance(held, int) or not isinstance(rows, tuple) or not isinstance(ends, tuple):
        return False
    if not 1 <= len(rows) <= 6 or len(ends) != len(rows) or not all(end is True or end is False for end in ends):
        return False
    for row in rows:
        if not isinstance(row, tuple) or len(row) != letters:
            return False
        for item in row:
            if item is not None and (isinstance(item, bool) or not isinstance(item, int) or not 0 <= item < len(rows)):
                return False
    return True


def naive_is_query(letters, value, depth):
    """Whether the value is a query of at most this depth, for values without lines."""
    if not isinstance(value, tuple) or len(value) != 2 or depth == 0:
        return False
    name, held = value
    if name in ("below", "above", "like", "is"):
        return is_text(held, letters, 0, 20)
    if name == "has":
        return is_text(held, letters, 1, 4)
    if name == "of":
        return is_kind(held, letters)
    if name == "not":
        return naive_is_query(letters, held, depth - 1)
    if name in ("all", "some") and isinstance(held, tuple) and len(held) <= 4:
        return all(naive_is_query(letters, query, depth - 1) for query in held)
    return False


def has_line(value):
    return isinstance(value, (tuple, list)) and any(part == "seen" or has_line(part) for part in value)


def nested(name, depth, within=("is", "a")):
    """A query of this depth: the innermost one within others of this name."""
    for _ in range(depth - 1):
        within = {"not": ("not", within), "seen": ("seen", (), within), "all": ("all", (within,)),
                  "some": ("some", (("is", ""), within))}[name]
    return within


class QueryError(unittest.TestCase):
    def good(self, letters, value):
        self.assertIsNone(query_error(letters, value), value)

    def bad(self, letters, value):
        self.assertEqual(query_error(letters, value), "query", value)

    def test_random_queries(self):
        chance = random.Random(971)
        for _ in range(500):
            letters = chance.randint(1, 3)
            value = random_query(chance, letters, 4)
            kept = copy.deepcopy(value)
            self.good(letters, value)
            self.bad(letters, nested("not", 5, value))
            self.bad(letters, list(value))
            self.assertEqual(value, kept)

    def test_with_parts_changed(self):
        chance = random.Random(972)
        told = {None: 0, "query": 0}
        while sum(told.values()) < 3000:
            letters = chance.randint(1, 3)
            value = changed(chance, random_query(chance, letters, 3))
            if chance.random() < 0.3:
                value = changed(chance, value)
            if has_line(value):
                continue
            kept = repr(value)
            found = query_error(letters, value)
            self.assertEqual(found, None if naive_is_query(letters, value, 4) else "query", value)
            self.assertEqual(repr(value), kept)
            told[found] += 1
        self.assertGreater(min(told.values()), 150)

    def test_words(self):
        for name in ("below", "above", "like", "is"):
            for word in ("", "a", "ab" * 10):
                self.good(2, (name, word))
            self.good(3, (name, "abc"))
            for word in ("a" * 21, "c", "abc", "A", " ", "a ", ".", None, 0, True, ("a",), ["a"], b"a", {}):
                self.bad(2, (name, word))
            for value in ((name,), (name, "a", "a"), (name, "a", ()), [name, "a"], (name.upper(), "a"), (name + " ", "a")):
                self.bad(2, value)

    def test_pieces(self):
        for piece in ("a", "ab", "bab", "abba"):
            self.good(2, ("has", piece))
        for piece in ("", "ababa", "c", "abc", None, 1, ("a",), ["a"]):
            self.bad(2, ("has", piece))
        self.bad(1, ("has", "b"))
        self.bad(2, ("has", "a", "b"))

    def test_kinds(self):
        six = (2, ((1, 1), (2, 2), (3, 3), (4, 4), (5, 5), (0, None)), (True,) * 6)
        self.good(2, ("of", six))
        self.bad(2, ("of", (2, six[1] + ((0, 0),), (True,) * 7)))
        for kind in ((1, ((0,),), (True,)), (3, ((0, 0, 0),), (True,)), (2, ((0, 1),), (True,)), (2, ((0, 0),), (1,)),
                     (2, [(0, 0)], (True,)), (2, ((0, True),), (True,)), (True, ((0,),), (True,)), None, (), "a"):
            self.bad(2, ("of", kind))
        self.bad(1, ("of", (True, ((0,),), (True,))))
        self.bad(2, ("of", EVERY, EVERY))

    def test_seen(self):
        self.good(2, ("seen", (), ("is", "")))
        self.good(2, ("seen", (FOLD, FOLD, ("cut", (1, 9), 30)), ("has", "ab")))
        for line in ((FOLD,) * 4, [FOLD], (("cut", (1, 9), 31),), (("stop", "c"),), None, FOLD):
            self.bad(2, ("seen", line, ("is", "")))
        for value in (("seen", ()), ("seen", ("is", "")), ("seen", (), ("is", ""), ()), ("seen", (), ("is", "c")),
                      ("seen", (), None), ("seen", ("is", ""), ())):
            self.bad(2, value)

    def test_tuples_of_queries(self):
        for name in ("all", "some"):
            for many in range(5):
                self.good(2, (name, (("is", "a"),) * many))
            self.bad(2, (name, (("is", "a"),) * 5))
            for held in ([], [("is", "a")], ("is", "a"), (("is", "c"),), (("is", "a"), None), None, {}, "a", ("",)):
                self.bad(2, (name, held))
            self.bad(2, (name, (), ()))
            self.bad(2, (name,))

    def test_depth(self):
        for name in ("not", "seen", "all", "some"):
            self.good(2, nested(name, 4))
            self.bad(2, nested(name, 5))
            self.bad(2, nested(name, 6))
            for inner in (("all", ()), ("some", ())):
                self.good(2, nested(name, 4, inner))
                self.bad(2, nested(name, 5, inner))
            self.bad(2, nested(name, 4, ("is", "c")))
        # The greatest depth of those within counts, wherever that one stands.
        self.bad(2, ("all", (("is", "a"), nested("not", 4))))
        self.good(2, ("all", (("is", "a"), nested("not", 3))))
        self.bad(2, nested("not", 19))

    def test_values_of_other_kinds(self):
        for value in (None, True, 0, 10 ** 59, "", "is", "query", (), [], {}, ("is",), (("is", "a"),), ("", ""), (0, "a"),
                      (None, None), ({}, "a"), ([], "a"), (("is",), "a"), {"is": "a"}, ("not",), ("not", ()), ("not", "a"),
                      ("not", ("is", "a"), ("is", "a")), ("below", ("is", "a"))):
            for letters in (1, 2, 3):
                self.bad(letters, value)


class Answers(unittest.TestCase):
    def test_against_the_definition(self):
        chance = random.Random(973)
        told = {True: 0, False: 0}
        for _ in range(600):
            letters = chance.choice((1, 2, 3))
            comp, query = some_comp(chance, letters), random_query(chance, letters, 4)
            for word in words_up_to(letters, 3) + [random_word(chance, letters, 30)]:
                found = answers(comp, query, word)
                self.assertIs(found, naive_answers(comp, query, word), (comp, query, word))
                told[found] += 1
        self.assertGreater(min(told.values()), 1000)

    def test_each_form(self):
        plain = by_ranks(2, (0, 1))
        wanted = {
            ("below", "ab"): ["", "a", "aa", "aab"], ("above", "ab"): ["b", "abb"], ("like", "ab"): ["ab"],
            ("is", "aa"): ["aa"], ("has", "ab"): ["ab", "aab", "abb"], ("of", (2, ((0, None),), (True,))): ["", "a", "aa"],
            ("seen", (("stop", "b"),), ("is", "a")): ["a", "ab", "abb"], ("not", ("has", "a")): ["", "b"],
            ("all", ()): ["", "a", "b", "aa", "ab", "aab", "abb"], ("some", ()): [],
            ("all", (("has", "a"), ("has", "b"))): ["ab", "aab", "abb"],
            ("some", (("is", ""), ("is", "b"), ("is", "bbb"))): ["", "b"],
        }
        for query, words in wanted.items():
            held = [word for word in ("", "a", "b", "aa", "ab", "aab", "abb") if answers(plain, query, word)]
            self.assertEqual(held, words, query)

    def test_which_word_is_the_first_one(self):
        # Beside a shorter word it tells -1, beside a longer one 0: not the contrary.
        comp = (1, ((0, 1, 0), (1, 1, 1)), (0, -1))
        self.assertIs(answers(comp, ("below", "a"), "aa"), True)
        self.assertIs(answers(comp, ("below", "aa"), "a"), False)
        self.assertIs(answers(comp, ("like", "aa"), "a"), True)

    def test_seen_within_seen(self):
        query = ("seen", (FOLD,), ("seen", (("stop", "b"),), ("is", "aa")))
        self.assertIs(answers(by_length(2), query, "bbab"), True)
        self.assertIs(answers(by_length(2), query, "aaba"), False)
        self.assertIs(answers(by_length(2), ("seen", (("stop", "b"), FOLD), ("like", "aa")), "aab"), True)


if __name__ == "__main__":
    unittest.main()
