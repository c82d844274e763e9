"""Console and execute (point 24)."""

import random
import re
import unittest

from sortedshelves.comps import by_length, by_ranks, then
from sortedshelves.consoles import Console
from sortedshelves.errors import NoVersion, NoWord, ShelfError
from sortedshelves.shelves import Shelf, SureShelf
from sortedshelves.texts import plan_text
from tests.naive import all_words
from tests.reference import random_word, timed
from tests.shelfmodel import look
from tests.shelfplans import ODD_VALUES, good_plan

EVERY = all_words(2)
PLAIN = by_ranks(2, (0, 1))
UNKNOWN = "unknown command"
NUMBER = "(?:0|-?[1-9][0-9]{0,39})"
WORD = "(?:-|[abc]{1,200})"
QUERY = f"((?:below|above|like|is|has)) ({WORD})"


def a_console(words=("", "aa", "ab", "b"), room=None):
    shelf = Shelf((EVERY, PLAIN, (), room, words))
    return shelf, Console(shelf)


def plain_answer(shelf, line):
    """What the console is to answer, from the shelf's own methods."""
    def word(text):
        return "" if text == "-" else text

    def told(pattern):
        return isinstance(line, str) and re.fullmatch(pattern, line)

    try:
        if told(f"put {WORD}"):
            return f"ok {shelf.put(word(line[4:]))}"
        if told(f"take {NUMBER}"):
            return f"ok {shelf.take(int(line[5:]))}"
        if told(f"weed {QUERY}"):
            name, held = told(f"weed {QUERY}").groups()
            return f"ok {shelf.weed((name, word(held)))}"
        if told("undo"):
            return f"ok {shelf.undo()}"
        if told("redo"):
            return f"ok {shelf.redo()}"
        if told(f"find {QUERY}"):
            name, held = told(f"find {QUERY}").groups()
            return " ".join(map(str, shelf.find((name, word(held))))) or "none"
        if told(f"places {WORD}"):
            return "{} {}".format(*shelf.places(word(line[7:])))
        if told(f"page {NUMBER} {NUMBER}"):
            return " ".join(held or "-" for held in shelf.page(*map(int, line.split(" ")[1:]))) or "none"
        if told("plan"):
            return " | ".join(plan_text(shelf.plan).split("\n"))
        if told("count"):
            return f"{len(shelf)} {shelf.age()}"
    except (ShelfError, NoWord, NoVersion) as error:
        return f"error {type(error).__name__}"
    return UNKNOWN


def some_line(chance, letters):
    word = random_word(chance, chance.choice((letters, letters, letters, 3)), chance.randint(0, 4)) or "-"
    query = chance.choice(("below", "above", "like", "is", "has")) + " " + word
    line = chance.choice((
        f"put {word}", f"put {word}", f"put {word}", f"take {chance.randint(-1, 4)}", f"weed {query}", "undo", "redo",
        f"find {query}", f"places {word}", f"page {chance.randint(-1, 4)} {chance.randint(-1, 4)}", "plan", "count",
    ))
    if chance.random() < 0.2:
        at = chance.randrange(len(line) + 1)
        line = line[:at] + chance.choice((" ", "  ", "0", "-", "a", "\n", "", "b", "1")) + line[at + chance.randint(0, 1):]
    return line


class Commands(unittest.TestCase):
    def test_beside_the_methods(self):
        chance = random.Random(2401)
        seen = set()
        for _ in range(150):
            plan = good_plan(chance)
            shelf, beside = Shelf(plan), Shelf(plan)
            console = Console(shelf)
            for _ in range(25):
                line = some_line(chance, plan[0][0])
                found = console.execute(line)
                self.assertEqual(found, plain_answer(beside, line), line)
                self.assertIs(type(found), str)
                self.assertEqual(look(shelf), look(beside))
                seen.add(" ".join(found.split(" ")[:2]) if found.startswith("error") else found.split(" ")[0])
        self.assertLessEqual({"ok", "none", "unknown", "letters", "error BadWord", "error NoWord", "error Outside", "error Full",
                              "error BadQuery", "error BadPage", "error NothingToUndo", "error NothingToRedo"}, seen)

    def test_it_works_on_this_very_shelf(self):
        shelf, console = a_console()
        self.assertEqual(console.execute("put a"), "ok 1")
        self.assertEqual((shelf.plan[4], shelf.age()), (("", "a", "aa", "ab", "b"), 1))
        shelf.put("bb")
        self.assertEqual([console.execute("count"), Console(shelf).execute("undo"), console.execute("count")],
                         ["6 2", "ok 1", "5 1"])
        self.assertEqual(Console(shelf=shelf).execute(line="redo"), "ok 2")

    def test_each_command(self):
        shelf, console = a_console()
        for line, answer in (
                ("find all", UNKNOWN), ("find has a", "1 2"), ("find is bb", "none"), ("find above -", "1 2 3"),
                ("find below -", "none"), ("find like -", "0"), ("find is -", "0"), ("find has -", "error BadQuery"),
                ("find has ababa", "error BadQuery"), ("places b", "3 4"), ("places -", "0 1"), ("places bb", "4 4"),
                ("page 0 4", "- aa ab b"), ("page 1 2", "aa ab"), ("page 4 1", "none"), ("page 0 0", "none"),
                ("page -1 2", "error BadPage"), ("page 1 -2", "error BadPage"), ("count", "4 0"), ("undo", "error NothingToUndo"),
                ("redo", "error NothingToRedo"), ("take 4", "error NoWord"), ("take -1", "error NoWord"), ("take 3", "ok 1"),
                ("weed below aa", "ok 2"), ("page 0 9", "aa ab"), ("undo", "ok 1"), ("redo", "ok 2"), ("put -", "ok 3"),
                ("page 0 9", "- aa ab"), ("put c", "error BadWord"), ("places c", "error BadWord"), ("find is c", "error BadQuery"),
                ("weed below " + "a" * 21, "error BadQuery"), ("weed below " + "a" * 20, "ok 4"), ("page 0 9", "ab"),
                ("count", "1 4"), ("plan", plan_text(shelf.plan[:4] + (("ab",),)).replace("\n", " | "))):
            self.assertEqual(console.execute(line), answer, line)

    def test_errors_by_the_names_of_their_classes(self):
        shelf, console = a_console(("a",) * 59, ((1, 1), 61))
        self.assertEqual([console.execute(line) for line in ("put aaa", "put aa", "put a", "put -")],
                         ["error Full", "ok 1", "error Crowded", "error Crowded"])
        for _ in range(79):
            shelf.widen(None)
        self.assertEqual([console.execute(line) for line in ("take 0", "put c", "weed is a", "count", "undo")],
                         ["error TooManyEdits"] * 3 + ["60 80", "ok 79"])
        odd = Shelf(((1, ((1,), (0,)), (True, False)), by_length(1), (("cut", (1,), 3),), None, ()))
        self.assertEqual([Console(odd).execute(line) for line in ("put aaaa", "put a", "put aa")],
                         ["error Outside", "error BadWord", "ok 1"])
        sure = Console(SureShelf((EVERY, then(by_length(2), PLAIN), (), None, ())))
        self.assertEqual([sure.execute("put b"), sure.execute("put a"), sure.execute("page 0 2")], ["ok 1", "ok 2", "a b"])

    def test_wrong_spaces(self):
        shelf, console = a_console()
        for line in ("put a", "take 0", "weed is a", "find is a", "places a", "page 0 1", "undo", "redo", "plan", "count"):
            for held in (" " + line, line + " ", line.replace(" ", "  "), line + "\n", "\n" + line, line.replace(" ", "\t"),
                         line + " -", line + " a", line + " 0", line.upper(), line[:-1], line.replace(" ", ""), line + line):
                if held not in (line, "put -", "find is ") and held != "put a"[:-1]:
                    self.assertEqual(console.execute(held), plain_answer(shelf, held), held)
                    if held != line:
                        self.assertEqual(console.execute(held), UNKNOWN, held)
        self.assertEqual(shelf.age(), 0)

    def test_numbers(self):
        shelf, console = a_console()
        for text in ("00", "01", "-0", "-01", "+1", "--1", "-", "", "1.0", "1e1", "0x1", " 1", "1 ", "1_0", "a", "9" * 41,
                     "-" + "9" * 41, "0" * 40, "\u0661"):
            self.assertEqual(console.execute(f"take {text}"), UNKNOWN, text)
            self.assertEqual(console.execute(f"page {text} 1"), UNKNOWN, text)
            self.assertEqual(console.execute(f"page 1 {text}"), UNKNOWN, text)
        for text in ("9" * 40, "-" + "9" * 40, "-1", "4", "10"):
            self.assertEqual(console.execute(f"take {text}"), "error NoWord")
        self.assertEqual([console.execute("page 0 " + "9" * 40), console.execute("page " + "9" * 40 + " 1"),
                          console.execute("page -" + "9" * 40 + " 1")], ["- aa ab b", "none", "error BadPage"])
        self.assertEqual(shelf.age(), 0)

    def test_words(self):
        shelf, console = a_console()
        for line in ("put", "places", "find is", "weed has"):
            for text in ("", "d", "A", "--", "a-", "-a", "a" * 201, "a b", "ab\n", "0", "."):
                self.assertEqual(console.execute(f"{line} {text}"), UNKNOWN, (line, text))
            self.assertEqual(console.execute(line), UNKNOWN)
        self.assertEqual([console.execute("put " + "a" * 200), console.execute("places " + "b" * 200)], ["ok 1", "5 5"])
        self.assertEqual(console.execute("find is " + "a" * 200), "error BadQuery")
        self.assertEqual([console.execute("put " + "c" * 200), console.execute("find has abc")], ["error BadWord", "error BadQuery"])
        self.assertEqual([console.execute("find " + q) for q in ("not is a", "all", "some", "of a", "seen a", "Is a", "is a a")],
                         [UNKNOWN] * 7)
        self.assertEqual(shelf.age(), 1)

    def test_values_that_are_no_texts(self):
        shelf, console = a_console()
        for value in ODD_VALUES + (("count",), ["count"], {"count": 1}, b"count", ("put", "a")):
            self.assertEqual(console.execute(value), UNKNOWN)
        for text in ("", " ", "\n", "help", "attempt", "lay", "reorder", "widen", "moves", "age", "edits", "find", "count 1",
                     "plan 0", "undo 1", "put a; put b", "put a\nput b"):
            self.assertEqual(console.execute(text), UNKNOWN)
        self.assertEqual(shelf.age(), 0)

    def test_great_sizes(self):
        chance = random.Random(2402)
        shelf, console = a_console(())
        for _ in range(70):
            timed(console.execute, "put " + random_word(chance, 2, 200))
        self.assertEqual(len(shelf), 60)
        self.assertEqual(timed(console.execute, "page 0 60").split(" "), list(shelf.plan[4]))
        self.assertEqual(timed(console.execute, "plan").count(" | word "), 60)
        self.assertEqual(timed(console.execute, "x" * 300000), UNKNOWN)
        self.assertEqual(timed(console.execute, "take " + "1" * 300000), UNKNOWN)


if __name__ == "__main__":
    unittest.main()
