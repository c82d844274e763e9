"""Forms: what words are worth, the greatest worth, and heights that show that no word is above a bound."""

from sortedshelves.checks import is_integer
from sortedshelves.counted import Counted, first_above, greatest_kept
from sortedshelves.graphs import LETTERS, raised, reached


def worth(form, word):
    """The sum of what the form has for the letters of the word."""
    return sum([part * word.count(sign) for part, sign in zip(form, LETTERS)])


def greatest(machine, form):
    """The greatest worth of the words of the machine with the first one, or a ring, or that there is none."""
    return greatest_kept(counted_by_nothing(machine, form))


def above(machine, form, bound):
    """The first word of the machine that is worth more than the bound, or None."""
    return first_above(counted_by_nothing(machine, form), bound)


def counted_by_nothing(machine, form):
    """The machine with the form and a limit that all words keep."""
    return Counted(machine, ((0,) * machine[0], 0), form)


def heights(machine, form, bound):
    """Heights that show that no word of the machine is above the bound, or None if there are none.

    The height of a state is the greatest worth of the words that come to it.
    """
    _, rows, ends = machine
    order = reached(rows)
    edges = []
    for state in order:
        for letter, target in enumerate(rows[state]):
            if target is not None:
                edges.append((state, target, form[letter], letter))
    found = {0: 0}
    if raised(edges, found, len(order)) is not None:
        return None
    if any([ends[state] and found[state] > bound for state in order]):
        return None
    return tuple([found.get(state) for state in range(len(rows))])


def heights_hold(machine, form, bound, value):
    """Whether the value is heights for the machine, the form and the bound."""
    _, rows, ends = machine
    if not isinstance(value, tuple) or len(value) != len(rows):
        return False
    if not all([item is None or is_integer(item) for item in value]):
        return False
    if value[0] is None or value[0] < 0:
        return False
    for state, height in enumerate(value):
        if height is None:
            continue
        if ends[state] and height > bound:
            return False
        for letter, target in enumerate(rows[state]):
            if target is not None and (value[target] is None or value[target] < height + form[letter]):
                return False
    return True
