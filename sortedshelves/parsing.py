"""Reads the lines of texts of plans, in the wide sense; None tells that a line is none of its sort."""

from sortedshelves.errors import BadText
from sortedshelves.graphs import LETTERS

DIGITS = "0123456789"

# How many digits a number has at most.
LONGEST = 9

HEADS = {"letters a": 1, "letters ab": 2, "letters abc": 3}
VERDICTS = {"less": -1, "same": 0, "more": 1}


def plan_of_lines(lines):
    """The plan that the lines tell; BadText with the first line that cannot stand there, or that is missing."""
    if lines[0] not in HEADS:
        raise BadText(0)
    letters = HEADS[lines[0]]
    states, at = some_lines(lines, 1, lambda line: state_in(letters, line))
    if not states:
        raise BadText(at)
    rows, at = some_lines(lines, at, lambda line: row_in(letters, line))
    if not rows:
        raise BadText(at)
    steps, at = some_lines(lines, at, lambda line: step_in(letters, line))
    room = counts_in("room", letters, lines[at].split(" ")) if at < len(lines) else None
    words, at = some_lines(lines, at if room is None else at + 1, word_in)
    if at < len(lines):
        raise BadText(at)
    kind = (letters, tuple([row for row, _ in states]), tuple([end for _, end in states]))
    comp = (letters, tuple([row for row, _ in rows]), tuple([verdict for _, verdict in rows]))
    return (kind, comp, tuple(steps), room, tuple(words))


def some_lines(lines, at, read):
    """What read makes of the lines from this one on, as long as they are of its sort, and the place behind them."""
    found = []
    while at < len(lines):
        told = read(lines[at])
        if told is None:
            break
        found.append(told)
        at += 1
    return found, at


def number_in(text):
    """The number that is written so, or -1."""
    if not 1 <= len(text) <= LONGEST or not all([sign in DIGITS for sign in text]):
        return -1
    return -1 if text[0] == "0" and text != "0" else int(text)


def are_letters(text):
    """Whether the text is one or more letters, of a shelf or not."""
    return text != "" and all([sign in LETTERS for sign in text])


def state_in(letters, line):
    """The row of the state and whether it is an end, or None."""
    parts = line.split(" ")
    end = len(parts) == letters + 2 and parts[-1] == "end"
    items = parts[1:-1] if end else parts[1:]
    if parts[0] != "state" or len(items) != letters:
        return None
    row = [None if item == "." else number_in(item) for item in items]
    return None if -1 in row else (tuple(row), end)


def row_in(letters, line):
    """The row of a comparison and its verdict, or None."""
    parts = line.split(" ")
    if parts[0] != "row" or len(parts) != (letters + 1) * (letters + 1) + 1 or parts[-1] not in VERDICTS:
        return None
    row = [number_in(item) for item in parts[1:-1]]
    return None if -1 in row else (tuple(row), VERDICTS[parts[-1]])


def step_in(letters, line):
    """The step, or None."""
    parts = line.split(" ")
    if parts[0] == "cut":
        found = counts_in("cut", letters, parts)
        return None if found is None else ("cut", *found)
    if parts[0] == "stop":
        return ("stop", parts[1]) if len(parts) == 2 and len(parts[1]) == 1 and are_letters(parts[1]) else None
    if parts[0] == "pass":
        return pass_in(letters, parts[1:])
    return swap_in(parts[1:]) if parts[0] == "swap" else None


def counts_in(name, letters, parts):
    """The unit and the number behind "to", or None."""
    if len(parts) != letters + 3 or parts[0] != name or parts[-2] != "to":
        return None
    numbers = [number_in(part) for part in parts[1:-2] + parts[-1:]]
    return None if -1 in numbers else (tuple(numbers[:-1]), numbers[-1])


def pass_in(letters, turns):
    """The pass with these turns, or None."""
    rows, outs = [], []
    for turn in turns:
        items = turn.split(",")
        numbers = [number_in(item[:-1]) for item in items]
        signs = [item[-1:] for item in items]
        if len(items) != letters or -1 in numbers or not all([are_letters(sign) for sign in signs]):
            return None
        rows.append(tuple(numbers))
        outs.append(tuple(signs))
    return ("pass", tuple(rows), tuple(outs)) if turns else None


def swap_in(texts):
    """The swap with these pairs, or None."""
    pairs = [tuple(text.split(":")) for text in texts]
    if not pairs or not all([len(pair) == 2 and are_letters(pair[0]) and are_letters(pair[1]) for pair in pairs]):
        return None
    return ("swap", tuple(pairs))


def word_in(line):
    """The word, or None."""
    parts = line.split(" ")
    if len(parts) != 2 or parts[0] != "word":
        return None
    if parts[1] == "-":
        return ""
    return parts[1] if are_letters(parts[1]) else None
