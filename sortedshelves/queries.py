"""Queries: which words answer them, and what they ask for all words of a kind."""

from sortedshelves.asking import VERDICTS, table_of
from sortedshelves.bounds import MAX_ASKED, MAX_DEPTH, MAX_STATES
from sortedshelves.checks import is_word
from sortedshelves.comps import tells
from sortedshelves.explored import smallest_explored
from sortedshelves.graphs import first_word, trimmed
from sortedshelves.machines import is_of, machine_error
from sortedshelves.steps import image, line_error
from sortedshelves.tables import NEVER

# How many queries stand in one "all" or "some" at most, and how many letters a piece has.
MANY = 4
LONGEST_PIECE = 4


def query_error(letters, value):
    """None for a query for so many letters, otherwise "query"."""
    return None if is_query(letters, value, MAX_DEPTH) else "query"


def is_query(letters, value, depth):
    """Whether the value is a query for so many letters and of at most this depth."""
    if depth < 1 or not isinstance(value, tuple) or len(value) < 2:
        return False
    name = value[0]
    if name == "seen":
        return len(value) == 3 and line_error(letters, value[1]) is None and is_query(letters, value[2], depth - 1)
    if len(value) != 2:
        return False
    held = value[1]
    if name in ("below", "above", "like", "is"):
        return is_word(held, letters, MAX_ASKED)
    if name == "has":
        return is_word(held, letters, LONGEST_PIECE) and held != ""
    if name == "of":
        return machine_error(held) is None and held[0] == letters and len(held[1]) <= MAX_STATES
    if name == "not":
        return is_query(letters, held, depth - 1)
    if name not in ("all", "some") or not isinstance(held, tuple) or len(held) > MANY:
        return False
    return all([is_query(letters, query, depth - 1) for query in held])


def answers(comp, query, word):
    """Whether the word answers the query."""
    name = query[0]
    if name in VERDICTS:
        return tells(comp, word, query[1]) == VERDICTS[name]
    if name == "is":
        return word == query[1]
    if name == "has":
        return query[1] in word
    if name == "of":
        return is_of(query[1], word)
    if name == "seen":
        return answers(comp, query[2], image(query[1], word))
    if name == "not":
        return not answers(comp, query[1], word)
    told = [answers(comp, held, word) for held in query[1]]
    return all(told) if name == "all" else any(told)


def asked(kind, comp, query):
    """The smallest machine of the words of the kind that answer the query."""
    rows, ends = trimmed(kind[1], kind[2]), kind[2]
    table = table_of(comp, query)

    def goes(node):
        found = []
        for letter, target in enumerate(rows[node[0]]):
            further = NEVER if target is None else table.step(node[1], letter)
            found.append(None if further == NEVER else (target, further))
        return found

    def is_end(node):
        return ends[node[0]] and table.is_end(node[1])

    return smallest_explored((0, table.start), goes, is_end)


def same(kind, comp, one, other):
    """The first word of the kind that answers just one of both queries, or None."""
    rows, ends = trimmed(kind[1], kind[2]), kind[2]
    first, second = table_of(comp, one), table_of(comp, other)
    start = None if one == other else (0, first.start, second.start)

    def goes(node):
        state, left, right = node
        found = []
        for letter, target in enumerate(rows[state]):
            further = (target, first.step(left, letter), second.step(right, letter))
            # What is decided alike for all that follows shows nothing.
            alike = target is None or further[1] < 0 and further[1] == further[2]
            found.append(None if alike else further)
        return found

    def wanted(node):
        state, left, right = node
        return ends[state] and first.is_end(left) != second.is_end(right)

    return None if start is None else first_word(start, goes, wanted)
