"""plan_text, parse_plan (point 17)."""

import copy
import random
import re
import unittest

from sortedshelves.comps import by_length, by_ranks
from sortedshelves.errors import BadPlan, BadText
from sortedshelves.texts import parse_plan, plan_error, plan_text
from tests.naive import all_words, some_comp, some_kind
from tests.reference import random_comp, random_line, random_word, timed
from tests.shelfplans import ODD_VALUES, good_plan, some_room

NUMBER = "(0|[1-9][0-9]{0,8})"
HIDDEN = ("order", "sorted")
TINY = "letters a\nstate 0 end\nrow 0 2 1 same\nrow 1 1 1 less\nrow 2 2 2 more"
NAMES = {"less": -1, "same": 0, "more": 1}


def sorts(letters):
    """What a line of each sort looks like."""
    counts = f"( {NUMBER}){{{letters}}} to {NUMBER}"
    turn = f" {NUMBER}[abc](,{NUMBER}[abc]){{{letters - 1}}}"
    return {
        "state": f"state( ({NUMBER}|[.])){{{letters}}}( end)?",
        "row": f"row( {NUMBER}){{{(letters + 1) ** 2 - 1}}} (less|same|more)",
        "step": f"(cut{counts}|stop [abc]|pass({turn})+|swap( [abc]+:[abc]+)+)",
        "room": f"room{counts}",
        "word": "word (-|[abc]+)",
    }


FOLLOW = {
    "letters": ("state",), "state": ("state", "row"), "row": ("row", "step", "room", "word"),
    "step": ("step", "room", "word"), "room": ("word",), "word": ("word",),
}


def naive_bad_line(text):
    """The field of BadText, or None if the text is one of a plan in the wide sense."""
    lines = text.split("\n")
    head = re.fullmatch("letters (a|ab|abc)", lines[0])
    if head is None:
        return 0
    looks, last = sorts(len(head.group(1))), "letters"
    for at, line in enumerate(lines[1:], 1):
        found = [name for name in FOLLOW[last] if re.fullmatch(looks[name], line)]
        if not found:
            return at
        last = found[0]
    return len(lines) if last in ("letters", "state") else None


def naive_plan(text):
    """The plan that a text in the wide sense tells."""
    letters, rows, ends, table, verdicts, line, room, words = 0, [], [], [], [], [], None, []
    for row in text.split("\n"):
        name, *parts = row.split(" ")
        if name == "letters":
            letters = len(parts[0])
        elif name == "state":
            ends.append(parts[-1] == "end")
            rows.append(tuple(None if part == "." else int(part) for part in parts[:letters]))
        elif name == "row":
            table.append(tuple(int(part) for part in parts[:-1]))
            verdicts.append(NAMES[parts[-1]])
        elif name == "cut":
            line.append(("cut", tuple(int(part) for part in parts[:-2]), int(parts[-1])))
        elif name == "stop":
            line.append(("stop", parts[0]))
        elif name == "pass":
            turns = [[(int(item[:-1]), item[-1]) for item in part.split(",")] for part in parts]
            line.append(("pass", tuple(tuple(k for k, _ in turn) for turn in turns),
                         tuple(tuple(sign for _, sign in turn) for turn in turns)))
        elif name == "swap":
            line.append(("swap", tuple(tuple(part.split(":")) for part in parts)))
        elif name == "room":
            room = (tuple(int(part) for part in parts[:-2]), int(parts[-1]))
        else:
            words.append("" if parts[0] == "-" else parts[0])
    return ((letters, tuple(rows), tuple(ends)), (letters, tuple(table), tuple(verdicts)), tuple(line), room, tuple(words))


def naive_parse(text):
    """What parse_plan returns, or the error with its field."""
    bad = naive_bad_line(text)
    if bad is not None:
        return ("BadText", bad)
    plan = naive_plan(text)
    error = plan_error(plan)
    if error is None or error[0] in HIDDEN or error == ("room", "full"):
        return plan
    return ("BadPlan", error)


def told(value):
    try:
        return parse_plan(value)
    except BadText as error:
        return ("BadText", error.line)
    except BadPlan as error:
        return ("BadPlan", error.error)


def some_plan(chance):
    """A plan, good or not, whose first four items are as told."""
    if chance.random() < 0.3:
        return good_plan(chance)
    letters = chance.randint(1, 3)
    kind, comp = some_kind(chance, letters), some_comp(chance, letters)
    words = tuple(random_word(chance, letters, chance.randint(0, 4)) for _ in range(chance.randint(0, 4)))
    return (kind, comp, random_line(chance, letters), some_room(chance, letters), words)


def changed_text(chance, text):
    """The text with few signs or lines replaced, left out, put in, doubled or exchanged."""
    for _ in range(chance.choice((1, 1, 1, 2, 3))):
        lines = text.split("\n")
        way, at = chance.randrange(10), chance.randrange(len(lines))
        if way == 0:
            lines.insert(at, lines[at])
        elif way == 1:
            del lines[at]
        elif way == 2:
            other = chance.randrange(len(lines))
            lines[at], lines[other] = lines[other], lines[at]
        elif way == 3:
            lines.insert(at, chance.choice(("", " ", "word", "stop a", "word -", "room 1 to 2", "swap a:b", "end", "cut 1 to 2")))
        elif way == 4:
            parts = lines[at].split(" ")
            k = chance.randrange(len(parts))
            parts[k] = chance.choice(("0", "00", "01", "7", "999999999", "1000000000", ".", "end", "-", "a", "0a", "a:b",
                                      "1a,0b", "", "to", "less", "-1", "+1", "c", "abc", "a:", ":"))
            lines[at] = " ".join(parts)
        elif way == 5:
            parts = lines[at].split(" ")
            k = chance.randrange(len(parts))
            lines[at] = " ".join(parts[:k] + chance.choice(([], [parts[k]] * 2)) + parts[k + 1:])
        if way < 6:
            text = "\n".join(lines)
            continue
        at = chance.randrange(len(text) + 1)
        sign = chance.choice(" \n0123456789abc.:,-dxtoend")
        text = text[:at] + (sign if way < 9 else "") + text[at + (way > 6):]
    return text


class ThereAndBack(unittest.TestCase):
    def test_plans_of_all_letters(self):
        chance = random.Random(1701)
        good = 0
        for _ in range(500):
            plan = some_plan(chance)
            kept = copy.deepcopy(plan)
            text = plan_text(plan)
            self.assertEqual(plan, kept)
            self.assertIsNone(naive_bad_line(text), text)
            self.assertEqual(naive_plan(text), plan)
            error = plan_error(plan)
            good += error is None
            if error is None or error[0] in HIDDEN or error == ("room", "full"):
                found = parse_plan(text)
                self.assertEqual(repr(found), repr(plan))
            else:
                self.assertEqual(told(text), ("BadPlan", error))
        self.assertGreater(good, 100)

    def test_the_texts_of_all_sorts_of_lines(self):
        kind = (3, ((None, 1, 2), (0, None, 1), (2, 2, None)), (True, False, True))
        line = (("cut", (0, 9, 1), 30), ("swap", (("ab", "ca"), ("b", "c"))),
                ("pass", ((1, 0, 1), (0, 1, 0)), (("b", "b", "c"), ("a", "c", "a"))))
        comp = by_length(3)
        text = plan_text((kind, comp, line, ((0, 3, 9), 10 ** 6), ("", "a", "", "cab")))
        self.assertEqual(text.split("\n"), [
            "letters abc", "state . 1 2 end", "state 0 . 1", "state 2 2 . end",
            "row 0 0 0 2 0 0 0 2 0 0 0 2 1 1 1 same", "row 1 1 1 1 1 1 1 1 1 1 1 1 1 1 1 less",
            "row 2 2 2 2 2 2 2 2 2 2 2 2 2 2 2 more", "cut 0 9 1 to 30", "swap ab:ca b:c", "pass 1b,0b,1c 0a,1c,0a",
            "room 0 3 9 to 1000000", "word -", "word a", "word -", "word cab",
        ])
        self.assertEqual(plan_text((all_words(1), by_length(1), (("stop", "a"),), None, ())), TINY + "\nstop a")

    def test_faults_that_are_not_told(self):
        every = all_words(2)
        for plan, error in (((every, (2, ((0,) * 8,), (1,)), (), None, ("a", "b")), ("order", "")),
                            ((every, by_ranks(2, (0, 1)), (), None, ("b", "a")), ("sorted", 0)),
                            ((every, by_ranks(2, (0, 1)), (), ((1, 1), 1), ("a", "b")), ("room", "full"))):
            self.assertEqual(plan_error(plan), error)
            self.assertEqual(parse_plan(plan_text(plan)), plan)

    def test_plans_whose_words_do_not_fit(self):
        for words in (("b" * 201,), ("a",) * 61, ("ba",)):
            plan = ((2, ((0, None),), (True,)), by_length(2), (), None, words)
            self.assertEqual(naive_plan(plan_text(plan)), plan)
            self.assertEqual(told(plan_text(plan)), ("BadPlan", ("words", None)))


class Wrong(unittest.TestCase):
    def test_changed_texts(self):
        chance = random.Random(1702)
        counts = {}
        for _ in range(250):
            text = plan_text(some_plan(chance))
            for _ in range(30):
                value = changed_text(chance, text)
                found = told(value)
                self.assertEqual(repr(found), repr(naive_parse(value)), value)
                name = found[0] if isinstance(found[0], str) else "plan"
                counts[name] = counts.get(name, 0) + 1
        self.assertTrue(all(counts[name] > 300 for name in ("BadText", "BadPlan", "plan")), counts)

    def test_cut_off_at_each_line_and_each_sign(self):
        chance = random.Random(1703)
        for _ in range(25):
            text = plan_text(some_plan(chance))
            lines = text.split("\n")
            for k in range(len(lines) + 1):
                held = "\n".join(lines[:k])
                self.assertEqual(told(held), naive_parse(held), held)
                self.assertEqual(told(held + "\n"), ("BadText", k))
            for k in range(0, len(text), 1 + len(text) // 60):
                self.assertEqual(told(text[:k]), naive_parse(text[:k]), text[:k])

    def test_values_that_are_no_texts(self):
        for value in ODD_VALUES:
            if not isinstance(value, str):
                with self.assertRaises(BadText) as caught:
                    parse_plan(value)
                self.assertIsNone(caught.exception.line)
        self.assertEqual(told([TINY]), ("BadText", None))
        self.assertEqual(told(b"letters a"), ("BadText", None))

    def test_lines_that_must_follow(self):
        self.assertEqual(told(""), ("BadText", 0))
        self.assertEqual(told("\n"), ("BadText", 0))
        self.assertEqual(told("letters a"), ("BadText", 1))
        self.assertEqual(told("letters a\n"), ("BadText", 1))
        self.assertEqual(told("letters a\nstate 0\nstate ."), ("BadText", 3))
        self.assertEqual(told("letters a\nrow 0 0 0 same"), ("BadText", 1))
        self.assertEqual(told("letters a\nstate 0 end\nstop a"), ("BadText", 2))
        self.assertEqual(told(TINY + "\n"), ("BadText", 5))
        self.assertEqual(told(TINY + "\n\nword a"), ("BadText", 5))

    def test_lines_out_of_order(self):
        for late, early in (("word a", "room 1 to 9"), ("room 1 to 9", "stop a"), ("stop a", "row 0 0 0 same"),
                            ("word a", "stop a"), ("word a", "state 0"), ("room 1 to 9", "room 1 to 9"),
                            ("stop a", "state 0"), ("word a", "letters a")):
            self.assertEqual(told(TINY + f"\n{late}\n{early}"), ("BadText", 6))
        self.assertEqual(parse_plan(TINY + "\nstop a\nroom 1 to 9\nword a\nword aa")[2:],
                         ((("stop", "a"),), ((1,), 9), ("a", "aa")))

    def test_each_sort_of_line_with_each_part_wrong(self):
        wrong = {
            "letters a": ("letters", "letters ", "letters b", "letters aa", "letters ba", "letters abcd", "letters A",
                          " letters a", "letters a ", "letters  a", "letter a", "letters a b", "letters ab c"),
            "state 0 end": ("state", "state end", "state 0 0", "state 0 End", "state 0  end", "state 0 end ", "state 00 end",
                            "state -1 end", "state , end", "state a", "state 0 end end", "state 1234567890", "state +1",
                            "State 0", "state .. end", "state 0. end"),
            "row 0 2 1 same": ("row 0 2 same", "row 0 2 1", "row 0 2 1 0 same", "row 0 2 . same", "row 0 2 1 equal",
                               "row 0 2 1 same ", "row 0 2 1  same", "row 0 02 1 same", "row 0 2 1234567890 same", "row same",
                               "row 0 2 1 same less", "row 0 2 1 1"),
            "cut 5 to 6": ("cut 5 6", "cut to 6", "cut 5 to", "cut 5 to 6 7", "cut 5 5 to 6", "cut 05 to 6", "cut 5 to -6",
                           "cut 5 To 6", "cut . to 6", "cut 5 to 1234567890", "cut", "cut 5  to 6"),
            "stop a": ("stop", "stop ", "stop aa", "stop d", "stop -", "stop a a", "stop A", "stop  a"),
            "pass 0a": ("pass", "pass ", "pass 0", "pass a", "pass 0aa", "pass 00a", "pass 0a,0a", "pass 0a ", "pass 0d",
                        "pass -1a", "pass 0a  0a", "pass 1234567890a", "pass 0a,", "pass ,0a", "pass .a"),
            "swap a:b": ("swap", "swap ", "swap a", "swap a:", "swap :a", "swap a:b:c", "swap a:d", "swap a:b ", "swap a-b",
                         "swap a:b  a:b", "swap -:a", "swap a:b,b:a"),
            "room 5 to 6": ("room", "room 5", "room 5 6", "room 5 to 06", "room 5 5 to 6", "room 5 to 6 ", "room -5 to 6"),
            "word aab": ("word", "word ", "word a b", "word aad", "word --", "word a-", "word A", "word 0", "word a ",
                         "Word a", "word  a", "words a"),
        }
        lines = TINY.split("\n")[:3] + ["cut 5 to 6", "stop a", "pass 0a", "swap a:b", "room 5 to 6", "word aab"]
        self.assertIsNone(naive_bad_line("\n".join(lines)))
        for at, line in enumerate(lines):
            for held in wrong[line]:
                text = "\n".join(lines[:at] + [held] + lines[at + 1:])
                self.assertEqual(told(text), ("BadText", at), held)
                self.assertEqual(naive_bad_line(text), at, held)

    def test_numbers_in_the_wide_sense(self):
        big = "999999999"
        for line, error in ((f"cut {big} to 1", ("line", (0, "step"))), (f"cut 1 to {big}", ("line", (0, "step"))),
                            (f"pass {big}a", ("line", (0, "step"))), ("pass 0b", ("line", (0, "step"))),
                            ("stop b", ("line", (0, "step"))), ("swap a:b", ("line", (0, "step"))),
                            ("swap aaa:aaa", ("line", (0, "step"))), (f"room 1 to {big}", ("room", None)),
                            ("room 10 to 1", ("room", None)), ("word b", ("words", None)),
                            ("word " + "a" * 201, ("words", None)), ("\n".join(["stop a"] * 4), ("line", (None, "many"))),
                            ("\n".join(["stop a"] * 3 + ["stop b"]), ("line", (3, "step"))),
                            ("pass" + " 0a" * 5, ("line", (0, "step"))), ("\n".join(["word a"] * 61), ("words", None))):
            self.assertEqual(told(f"{TINY}\n{line}"), ("BadPlan", error), line)
            self.assertEqual(told(f"{TINY}\n{line}".replace(big, big + "0"))[0], "BadText" if big in line else "BadPlan")
        self.assertEqual(told(TINY.replace("state 0", f"state {big}")), ("BadPlan", ("kind", "rows")))
        self.assertEqual(told(TINY.replace("state 0 end", "state 1 end")), ("BadPlan", ("kind", "rows")))
        self.assertEqual(told(TINY.replace("row 0", f"row {big}")), ("BadPlan", ("comp", "rows")))
        self.assertEqual(told("letters a" + "\nstate 0" * 7 + "\nrow 0 0 0 same"), ("BadPlan", ("kind", "states")))
        self.assertEqual(told("letters a" + "\nstate 0" * 401 + "\nrow 0 0 0 same"), ("BadPlan", ("kind", "rows")))
        self.assertEqual(told("letters a\nstate 0" + "\nrow 0 0 0 same" * 61), ("BadPlan", ("comp", "rows")))
        self.assertEqual(told("letters a\nstate 0\nrow 0 0 0 less\nword a\nroom 1 to 2"), ("BadText", 4))

    def test_the_first_error_of_the_plan(self):
        text = "letters a\nstate 5\nrow 7 7 7 same\nstop b\nroom 10 to 1\nword b"
        for line, error in (("state 5", ("kind", "rows")), ("row 7 7 7 same", ("comp", "rows")),
                            ("stop b", ("line", (0, "step"))), ("room 10 to 1", ("room", None)), ("word b", ("words", None))):
            self.assertEqual(told(text), ("BadPlan", error))
            text = text.replace(line, {"state 5": "state 0 end", "row 7 7 7 same": "row 0 0 0 same"}.get(line, "stop a"))
            text = text.replace("stop a\nstop a\nword b", "stop a\nword b")


class Great(unittest.TestCase):
    def test_texts_of_many_thousands_of_lines(self):
        for text, wanted in ((TINY + "\nword aa" * 40000, BadPlan), (TINY + "\nstop a" * 40000 + "\nroom", BadText),
                             ("letters abc" + "\nstate . 1 2 end" * 40000, BadText),
                             ("letters a\nstate 0" + "\nrow 0 0 0 same" * 40000, BadPlan),
                             (TINY + "\npass" + " 0a" * 60000, BadPlan), (TINY + "\nswap" + " ab:ba" * 60000, BadPlan),
                             (TINY + "\nword " + "a" * 300000, BadPlan), (TINY + "\n" * 100000, BadText)):
            self.assertIs(timed(parse_plan, text), wanted)

    def test_a_plan_of_the_greatest_size(self):
        chance = random.Random(1704)
        kind, comp = some_kind(chance, 3), random_comp(chance, 3, 60)
        plan = ((3, kind[1], kind[2]), comp, random_line(chance, 3), ((9, 9, 9), 10 ** 6), ())
        self.assertEqual(timed(parse_plan, timed(plan_text, plan)), plan)


if __name__ == "__main__":
    unittest.main()
