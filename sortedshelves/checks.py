"""What any value is asked: whether it is an integer, a number within bounds, a word, a unit."""

from sortedshelves.bounds import MAX_COUNT
from sortedshelves.graphs import LETTERS


def is_integer(value):
    """Whether the value is an integer, no bool."""
    return isinstance(value, int) and not isinstance(value, bool)


def is_number(value, least, most):
    """Whether the value is an integer, no bool, from least to most."""
    return is_integer(value) and least <= value <= most


def is_word(value, letters, most):
    """Whether the value is a word of so many letters that is at most so long."""
    if not isinstance(value, str) or len(value) > most:
        return False
    return all([sign in LETTERS[:letters] for sign in value])


def is_unit(value, letters):
    """Whether the value is a unit for so many letters."""
    if not isinstance(value, tuple) or len(value) != letters:
        return False
    return all([is_number(part, 0, MAX_COUNT) for part in value])
