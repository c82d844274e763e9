"""line_error and image of point 8."""

import copy
import random
import unittest

from sortedshelves.steps import image, line_error
from tests.reference import changed, random_line, random_step, random_word, timed, words_up_to

FOLD, SWAP = ("pass", ((0, 0),), (("b", "a"),)), ("swap", (("ab", "ba"),))
CUT, STOP = ("cut", (1, 0), 3), ("stop", "b")
DEEP = ()
for _ in range(17):
    DEEP = (DEEP,)
# None of these is a step for two letters.
WRONG = (
    None, True, False, 0, 3, "cut", "stop", "", (), [], {}, DEEP, [DEEP], ("cut",), ("stop",), ("pass",), ("swap",),
    ("put", "a"), ("Stop", "a"), ("stop ", "a"), (None, "a"), (("stop",), "a"), (["stop"], "a"), ({}, "a"), (0, 0, 0),
    ["stop", "a"], ["cut", (1, 0), 3], {0: "stop", 1: "a"}, ("stop", "a", "b"), ("stop", "a", None), "sa", ("s", "a"),
    # cut
    ("cut", (1, 0)), ("cut", (1, 0), 3, 3), ("cut", (1, 0), 31), ("cut", (1, 0), -1), ("cut", (1, 0), True),
    ("cut", (1, 0), False), ("cut", (1, 0), None), ("cut", (1, 0), "3"), ("cut", (1, 0), (3,)),
    ("cut", (1, 0), 10 ** 59),
    ("cut", (1,), 3), ("cut", (1, 0, 0), 3), ("cut", (), 3), ("cut", [1, 0], 3), ("cut", {0: 1, 1: 0}, 3),
    ("cut", (1, 10), 3), ("cut", (-1, 0), 3), ("cut", (True, 0), 3), ("cut", (1, False), 3), ("cut", (1, None), 3),
    ("cut", (1, "0"), 3), ("cut", (1, (0,)), 3), ("cut", "10", 3), ("cut", None, 3), ("cut", 3, (1, 0)),
    ("cut", (1, 10 ** 59), 3), ("cut", (1, DEEP), 3), ("cut", DEEP, 3),
    # stop
    ("stop", ""), ("stop", "c"), ("stop", "d"), ("stop", "A"), ("stop", "ab"), ("stop", "aa"), ("stop", "."),
    ("stop", None), ("stop", 0), ("stop", True), ("stop", ("a",)), ("stop", ["a"]), ("stop", {"a": "a"}),
    ("stop", DEEP),
    ("stop", "a" * 5000), ("stop", "a\n"),
    # pass
    ("pass", ((0, 0),)), ("pass", ((0, 0),), (("b", "a"),), ()), ("pass", (), ()), ("pass", ((0, 0),), ()),
    ("pass", ((0, 0),), (("b", "a"), ("b", "a"))), ("pass", ((0, 0), (0, 0)), (("b", "a"),)),
    ("pass", ((0, 0),) * 5, (("b", "a"),) * 5), ("pass", ((0,),), (("b", "a"),)), ("pass", ((0, 0, 0),), (("b", "a"),)),
    ("pass", ((0, 1),), (("b", "a"),)), ("pass", ((0, -1),), (("b", "a"),)), ("pass", ((0, None),), (("b", "a"),)),
    ("pass", ((0, False),), (("b", "a"),)), ("pass", ((0, True), (0, 0)), (("b", "a"),) * 2),
    ("pass", ((0, "0"),), (("b", "a"),)), ("pass", ((0, (0,)),), (("b", "a"),)),
    ("pass", ((0, 10 ** 59),), (("b", "a"),)),
    ("pass", ([0, 0],), (("b", "a"),)), ("pass", [(0, 0)], (("b", "a"),)), ("pass", {0: (0, 0)}, (("b", "a"),)),
    ("pass", (0, 0), (("b", "a"),)), ("pass", "00", (("b", "a"),)), ("pass", None, (("b", "a"),)),
    ("pass", ((0, 0),), (("b", "c"),)), ("pass", ((0, 0),), (("b", ""),)), ("pass", ((0, 0),), (("b", "ab"),)),
    ("pass", ((0, 0),), (("b", None),)), ("pass", ((0, 0),), (("b", 0),)), ("pass", ((0, 0),), (("b", ("a",)),)),
    ("pass", ((0, 0),), (("b",),)), ("pass", ((0, 0),), (("b", "a", "a"),)), ("pass", ((0, 0),), (["b", "a"],)),
    ("pass", ((0, 0),), [("b", "a")]), ("pass", ((0, 0),), ("ba",)), ("pass", ((0, 0),), ("b", "a")),
    ("pass", ((0, 0),), {0: ("b", "a")}), ("pass", ((0, 0),), None), ("pass", (("b", "a"),), ((0, 0),)),
    ("pass", ((0, DEEP),), (("b", "a"),)), ("pass", ((0, 0),), (("b", DEEP),)), ("pass", (DEEP,), (DEEP,)),
    # swap
    ("swap", ()), ("swap", (("a", "b"),), ()), ("swap", ("a", "b")), ("swap", "ab"), ("swap", None), ("swap", 1),
    ("swap", [("a", "b")]), ("swap", (["a", "b"],)), ("swap", {"a": "b"}), ("swap", (("a",),)),
    ("swap", (("a", "b", "a"),)),
    ("swap", (("a", "a"),)), ("swap", (("", ""),)), ("swap", (("", "a"),)), ("swap", (("a", "ab"),)),
    ("swap", (("aba", "bab"),)), ("swap", (("ab", "ac"),)), ("swap", (("a", "c"),)), ("swap", (("a", "."),)),
    ("swap", (("a", None),)), ("swap", (("a", 0),)), ("swap", (("a", ("b",)),)), ("swap", (("a", ["b"]),)),
    ("swap", (("ab", ("a", "b")),)), ("swap", (("a", "b"), ("b", "a"))), ("swap", (("a", "b"), ("a", "b"))),
    ("swap", (("ab", "ba"), ("aa", "ab"))), ("swap", (("ab", "ba"), ("ba", "aa"))),
    ("swap", (("a", "b"), ("ab", "ab"))),
    ("swap", (("a", "b"), None)), ("swap", (("a", "b"), ())), ("swap", (("a", DEEP),)), ("swap", (DEEP,)),
    ("swap", (("a" * 2500, "b" * 2500),)),
)


def naive_image(line, word):
    """By the words of the document, for each step."""
    for step in line:
        if step[0] == "cut":
            beginnings = [word[:n] for n in range(len(word) + 1)]
            word = max([part for part in beginnings if sum(step[1]["abc".index(s)] for s in part) <= step[2]], key=len)
        elif step[0] == "stop":
            word = word.split(step[1])[0]
        elif step[0] == "pass":
            turn, put = 0, ""
            for sign in word:
                letter = "abc".index(sign)
                put += step[2][turn][letter]
                turn = step[1][turn][letter]
            word = put
        else:
            word = exchanged(step[1], word)
    return word


def exchanged(pairs, word):
    for place in range(len(word)):
        for pair in pairs:
            for piece, partner in (pair, pair[::-1]):
                if word[place:place + len(piece)] == piece:
                    return word[:place] + partner + word[place + len(piece):]
    return word


def is_line_part(letters, value):
    """Whether the value is a step, by the words of the document."""
    signs = set("abc"[:letters])

    def number(part, most):
        return part.__class__ is int and 0 <= part <= most

    def table(part, fits):
        return part.__class__ is tuple and all(
            row.__class__ is tuple and len(row) == letters and all(map(fits, row)) for row in part)

    def word(part):
        return part.__class__ is str and len(part) in (1, 2) and set(part) <= signs

    if value.__class__ is not tuple or not value or value[0].__class__ is not str:
        return False
    name, parts = value[0], value[1:]
    if name == "cut" and len(parts) == 2:
        return table((parts[0],), lambda part: number(part, 9)) and number(parts[1], 30)
    if name == "stop" and len(parts) == 1:
        return word(parts[0]) and len(parts[0]) == 1
    if name == "pass" and len(parts) == 2:
        many = len(parts[0]) if parts[0].__class__ is tuple else 0
        return (1 <= many <= 4 and table(parts[0], lambda part: number(part, many - 1))
                and table(parts[1], lambda part: word(part) and len(part) == 1) and len(parts[1]) == many)
    if name == "swap" and len(parts) == 1 and parts[0].__class__ is tuple and 1 <= len(parts[0]) <= 4:
        if not all(pair.__class__ is tuple and len(pair) == 2 and all(map(word, pair)) for pair in parts[0]):
            return False
        pieces = [piece for pair in parts[0] for piece in pair]
        return len(set(pieces)) == len(pieces) and all(len(one) == len(other) for one, other in parts[0])
    return False


def naive_error(letters, value):
    if value.__class__ is not tuple:
        return (None, "line")
    for index, step in enumerate(value):
        if not is_line_part(letters, step):
            return (index, "step")
    return (None, "many") if len(value) > 3 else None


class LineError(unittest.TestCase):
    def test_lines(self):
        chance = random.Random(401)
        for _ in range(1000):
            letters = chance.randint(1, 3)
            line = random_line(chance, letters)
            self.assertIsNone(line_error(letters, line), line)
            self.assertIsNone(naive_error(letters, line), line)

    def test_the_bounds(self):
        for letters, line in (
            (1, ()), (3, ()), (2, (CUT, STOP, FOLD)), (1, (("cut", (0,), 0),)), (1, (("cut", (9,), 30),)),
            (3, (("cut", (9, 0, 9), 30),)), (1, (("stop", "a"),)), (3, (("stop", "c"),)),
            (1, (("pass", ((0,),), (("a",),)),)), (3, (("pass", ((3, 2, 1),) * 4, (("a", "b", "c"),) * 4),)),
            (2, (("swap", (("a", "b"), ("ab", "ba"), ("aa", "bb"))),)),
            (3, (("swap", (("a", "b"), ("ab", "ba"), ("cc", "bb"), ("ac", "ca"))),)),
            (3, (("swap", (("ab", "ba"), ("cc", "bb"), ("ac", "ca"), ("cb", "bc"))),)),
            (2, (SWAP, SWAP, SWAP)),
        ):
            self.assertIsNone(line_error(letters, line), line)

    def test_one_beyond_the_bounds(self):
        five = ("swap", (("ab", "ba"), ("cc", "bb"), ("ac", "ca"), ("cb", "bc"), ("a", "b")))
        self.assertEqual(line_error(3, (five,)), (0, "step"))
        self.assertIsNone(line_error(3, (("swap", five[1][:4]),)))
        self.assertEqual(line_error(3, (("pass", ((3, 2, 4),) * 5, (("a", "b", "c"),) * 5),)), (0, "step"))
        self.assertEqual(line_error(3, (("pass", ((3, 2, 4),) * 4, (("a", "b", "c"),) * 4),)), (0, "step"))
        self.assertEqual(line_error(1, (("cut", (10,), 30),)), (0, "step"))
        self.assertEqual(line_error(1, (("cut", (9,), 31),)), (0, "step"))
        self.assertEqual(line_error(2, (SWAP, SWAP, SWAP, SWAP)), (None, "many"))
        self.assertEqual(line_error(3, (("swap", (("abc", "cba"),)),)), (0, "step"))

    def test_letters_beyond_the_number_of_letters(self):
        for letters in (1, 2, 3):
            for sign in "abc":
                right = None if sign in "abc"[:letters] else (0, "step")
                self.assertEqual(line_error(letters, (("stop", sign),)), right)
                outs = (("a",) * (letters - 1) + (sign,),)
                self.assertEqual(line_error(letters, (("pass", ((0,) * letters,), outs),)), right)
                self.assertEqual(line_error(letters, (("swap", (("a" + sign, sign * 2 if sign != "a" else "ba"),)),)),
                                 right if sign != "a" else (None if letters > 1 else (0, "step")))
            for many in (1, 2, 3):
                right = None if many == letters else (0, "step")
                self.assertEqual(line_error(letters, (("cut", (1,) * many, 5),)), right)
                self.assertEqual(line_error(letters, (("pass", ((0,) * many,), (("a",) * many,)),)), right)

    def test_no_lines(self):
        for value in (None, True, False, 0, 10 ** 59, "", "cut", "stop", [], [FOLD], {}, {0: FOLD}, [()], "a" * 5000):
            self.assertEqual(line_error(2, value), (None, "line"), value)

    def test_no_steps_at_each_place(self):
        for value in WRONG:
            self.assertFalse(is_line_part(2, value), value)
            for index in range(3):
                line = (CUT, STOP, FOLD)[:index] + (value,)
                kept = copy.deepcopy(line)
                self.assertEqual(line_error(2, line), (index, "step"), value)
                self.assertEqual(line_error(2, line + (SWAP, value)), (index, "step"), value)
                self.assertEqual(line, kept)

    def test_the_first_is_told(self):
        self.assertEqual(line_error(2, [None]), (None, "line"))
        self.assertEqual(line_error(2, (FOLD,) * 3 + (None,)), (3, "step"))
        self.assertEqual(line_error(2, (FOLD,) * 10 + (("stop", "c"), None)), (10, "step"))
        self.assertEqual(line_error(2, (FOLD,) * 5999 + (0,)), (5999, "step"))
        self.assertEqual(line_error(2, (FOLD,) * 4), (None, "many"))
        self.assertEqual(line_error(2, (FOLD,) * 900), (None, "many"))
        self.assertEqual(line_error(2, FOLD), (0, "step"))
        self.assertEqual(line_error(2, (None, None)), (0, "step"))

    def test_any_values(self):
        chance = random.Random(402)
        told = {}
        for _ in range(6000):
            letters = chance.randint(1, 3)
            value = random_line(chance, letters)
            for _ in range(chance.randint(0, 2)):
                value = changed(chance, value)
            kept = copy.deepcopy(value)
            found = line_error(letters, value)
            self.assertEqual(found, naive_error(letters, value), value)
            self.assertEqual(value, kept)
            told[found] = told.get(found, 0) + 1
        for error in (None, (None, "line"), (0, "step"), (1, "step"), (2, "step"), (None, "many")):
            self.assertGreater(told[error], 50, error)

    def test_by_name(self):
        self.assertEqual(line_error(letters=2, value=(FOLD, None)), (1, "step"))


class Image(unittest.TestCase):
    def test_lines(self):
        chance = random.Random(403)
        for _ in range(1500):
            letters = chance.randint(1, 3)
            line = random_line(chance, letters)
            kept = copy.deepcopy(line)
            for _ in range(8):
                word = random_word(chance, letters, chance.randint(0, 14))
                found = image(line, word)
                self.assertEqual(found, naive_image(line, word), (line, word))
                self.assertEqual(image(line, word), found)
            self.assertEqual(line, kept)

    def test_each_step_by_itself(self):
        chance = random.Random(404)
        names = {}
        for _ in range(400):
            step = random_step(chance, 2)
            names[step[0]] = names.get(step[0], 0) + 1
            for word in words_up_to(2, 5):
                self.assertEqual(image((step,), word), naive_image((step,), word))
        self.assertGreater(min(names.values()), 50)

    def test_no_step(self):
        for word in ("", "abc", "c" * 1000):
            self.assertEqual(image((), word), word)

    def test_the_empty_word(self):
        chance = random.Random(405)
        for _ in range(300):
            self.assertEqual(image(random_line(chance, 3), ""), "")

    def test_cut(self):
        self.assertEqual(image((("cut", (1, 1), 3),), "abab"), "aba")
        self.assertEqual(image((("cut", (1, 1), 3),), "aba"), "aba")
        self.assertEqual(image((("cut", (1, 0), 0),), "bbab"), "bb")
        self.assertEqual(image((("cut", (2, 0), 3),), "abbab"), "abb")
        self.assertEqual(image((("cut", (0, 0), 0),), "abbab"), "abbab")
        self.assertEqual(image((("cut", (9, 1), 8),), "bba"), "bb")
        # What follows the letter that is too much is left away, though it would not count.
        self.assertEqual(image((("cut", (1, 0), 1),), "abbabb"), "abb")
        self.assertEqual(image((("cut", (9,), 30),), "aaaa"), "aaa")

    def test_stop(self):
        self.assertEqual(image((("stop", "b"),), "aab"), "aa")
        self.assertEqual(image((("stop", "b"),), "baab"), "")
        self.assertEqual(image((("stop", "b"),), "aaa"), "aaa")
        self.assertEqual(image((("stop", "c"),), "abcabc"), "ab")

    def test_pass(self):
        self.assertEqual(image((("pass", ((1, 0), (1, 1)), (("b", "b"), ("a", "b"))),), "baab"), "bbab")
        turning = ("pass", ((1,), (2,), (3,), (0,)), (("a",), ("a",), ("a",), ("a",)))
        self.assertEqual(image((turning,), "a" * 9), "a" * 9)
        ring = ("pass", ((1, 1), (2, 2), (3, 3), (0, 0)), (("a", "a"), ("a", "b"), ("b", "a"), ("b", "b")))
        self.assertEqual(image((ring,), "abababab"), "abbbabbb")
        self.assertEqual(image((ring,), "babababa"), "aaabaaab")

    def test_swap(self):
        self.assertEqual(image((SWAP,), "aabb"), "abab")
        self.assertEqual(image((SWAP,), "ba"), "ab")
        self.assertEqual(image((SWAP,), "aaa"), "aaa")
        self.assertEqual(image((SWAP,), "a"), "a")
        # The least place, whichever of the pairs and of the pieces stands there.
        many = ("swap", (("aa", "bb"), ("c", "b")))
        self.assertEqual(image((many,), "acaa"), "abaa")
        self.assertEqual(image((many,), "aacc"), "bbcc")
        self.assertEqual(image((many,), "abb"), "aaa")
        self.assertEqual(image((many,), "aba"), "aca")
        # At one place the first pair.
        self.assertEqual(image((("swap", (("ab", "ba"), ("a", "c"))),), "ab"), "ba")
        self.assertEqual(image((("swap", (("a", "c"), ("ab", "ba"))),), "ab"), "cb")
        self.assertEqual(image((("swap", (("ab", "ba"), ("a", "c"))),), "aab"), "cab")
        self.assertEqual(image((("swap", (("b", "c"), ("ab", "ba"))),), "aab"), "aba")
        # A piece of two letters does not stand at the last place.
        self.assertEqual(image((("swap", (("ab", "ba"), ("aa", "bb"))),), "cca"), "cca")
        self.assertEqual(image((("swap", (("ab", "ba"), ("aa", "bb"))),), "ccaa"), "ccbb")

    def test_one_behind_another(self):
        self.assertEqual(image((SWAP, SWAP), "abab"), "abab")
        self.assertEqual(image((("stop", "b"), FOLD), "aab"), "bb")
        self.assertEqual(image((FOLD, ("stop", "b")), "aab"), "")
        self.assertEqual(image((FOLD, ("cut", (1, 0), 0), FOLD), "aabb"), "aa")

    def test_words_of_a_thousand_letters(self):
        chance = random.Random(406)
        for _ in range(60):
            letters = chance.randint(1, 3)
            line = random_line(chance, letters)
            word = chance.choice((random_word(chance, letters, 1000), "a" * 999 + "abc"[letters - 1]))
            self.assertEqual(image(line, word), naive_image(line, word))
        self.assertEqual(image((SWAP,), "a" * 999 + "b"), "a" * 998 + "ba")
        self.assertEqual(image((("stop", "b"),), "a" * 999 + "b"), "a" * 999)

    def test_words_of_a_million_letters(self):
        long = "a" * 999999 + "b"
        every = ("swap", (("bb", "bc"), ("cc", "cb"), ("ac", "ca"), ("ab", "ba")))
        self.assertEqual(timed(image, (every,), long), "a" * 999998 + "ba")
        self.assertEqual(timed(image, (FOLD, FOLD, ("cut", (0, 1), 0)), long), "a" * 999999)

    def test_by_name(self):
        self.assertEqual(image(line=(FOLD,), word="aab"), "bba")


if __name__ == "__main__":
    unittest.main()
