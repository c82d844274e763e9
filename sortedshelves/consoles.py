"""Consoles: shelves that are worked on by lines of text."""

from sortedshelves.bounds import MAX_LONG
from sortedshelves.checks import is_word
from sortedshelves.errors import NoVersion, NoWord, ShelfError
from sortedshelves.parsing import DIGITS
from sortedshelves.texts import plan_text, word_text

UNKNOWN = "unknown command"

# How many digits a number has at most.
LONGEST = 40

QUERIES = ("below", "above", "like", "is", "has")


class Console:
    """Works on a shelf by lines of text."""

    def __init__(self, shelf):
        self.shelf = shelf

    def execute(self, line):
        """The answer to the line."""
        if not isinstance(line, str):
            return UNKNOWN
        name, *parts = line.split(" ")
        values = values_of(name, parts)
        if values is None:
            return UNKNOWN
        try:
            return answer(self.shelf, name, values)
        except (ShelfError, NoWord, NoVersion) as error:
            return "error " + error.__class__.__name__


def values_of(name, parts):
    """What the command with this name and these parts is told; None if there is no such command."""
    if name in ("undo", "redo", "plan", "count"):
        return None if parts else []
    if name in ("put", "places"):
        return values_in(parts, [word_in])
    if name == "take":
        return values_in(parts, [number_in])
    if name == "page":
        return values_in(parts, [number_in, number_in])
    if name not in ("weed", "find") or len(parts) != 2 or parts[0] not in QUERIES:
        return None
    word = word_in(parts[1])
    return None if word is None else [(parts[0], word)]


def values_in(parts, readers):
    """What the readers make of the parts, each of one; None if one of them can make nothing of it."""
    if len(parts) != len(readers):
        return None
    found = [read(part) for read, part in zip(readers, parts)]
    return None if None in found else found


def number_in(text):
    """The integer that is written so, or None."""
    digits = text[1:] if text.startswith("-") else text
    if not 1 <= len(digits) <= LONGEST or not all([sign in DIGITS for sign in digits]):
        return None
    return None if digits[0] == "0" and text != "0" else int(text)


def word_in(text):
    """The word that is written so, or None."""
    if text == "-":
        return ""
    return text if text != "" and is_word(text, 3, MAX_LONG) else None


def answer(shelf, name, values):
    """The answer of the shelf to the command."""
    if name == "find":
        return " ".join([str(index) for index in shelf.find(values[0])]) or "none"
    if name == "places":
        return " ".join([str(number) for number in shelf.places(values[0])])
    if name == "page":
        return " ".join([word_text(word) for word in shelf.page(values[0], values[1])]) or "none"
    if name == "plan":
        return plan_text(shelf.plan).replace("\n", " | ")
    if name == "count":
        return f"{len(shelf)} {shelf.age()}"
    return f"ok {done(shelf, name, values)}"


def done(shelf, name, values):
    """The new version behind the edit, undo or redo."""
    if name == "put":
        return shelf.put(values[0])
    if name == "take":
        return shelf.take(values[0])
    if name == "weed":
        return shelf.weed(values[0])
    return shelf.undo() if name == "undo" else shelf.redo()
