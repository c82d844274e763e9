"""Ranks: how many words are below a word, the words between two, the least ones, and what comes next."""

from sortedshelves.beside import Beside
from sortedshelves.fixed import Fixed
from sortedshelves.lowest import lowest_above, lowest_words


def rank(kind, comp, word):
    """How many words of the kind are below the word; None if they are without end."""
    return Beside(kind, [Fixed(comp, word, False, -1)]).how_many()


def alikes(kind, comp, word):
    """How many words of the kind are like the word; None if they are without end."""
    return Beside(kind, [Fixed(comp, word, False, 0)]).how_many()


def between(kind, comp, low, high):
    """The first word of the kind that low is below and that is below high, or None."""
    return Beside(kind, [Fixed(comp, low, True, -1), Fixed(comp, high, False, -1)]).earliest()


def between_count(kind, comp, low, high):
    """How many words of the kind low is below and are below high; None if they are without end."""
    return Beside(kind, [Fixed(comp, low, True, -1), Fixed(comp, high, False, -1)]).how_many()


def least(kind, comp):
    """The first word of the kind that no word of the kind is below, or None."""
    found = leaders(kind, comp, 1)
    return found[0] if found else None


def leaders(kind, comp, many):
    """The least word of the kind, the least one of the kind without it, and so on, at most so many."""
    return lowest_words(kind, comp, many)


def just_above(kind, comp, word):
    """The first word of the kind that word is below, with no word of the kind between both, or None."""
    return lowest_above(kind, comp, word)
