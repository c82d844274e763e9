"""Comparisons: what is one, what it tells of two words, and how they are made."""

from sortedshelves.bounds import MAX_LETTERS, MAX_STANDS
from sortedshelves.checks import is_number
from sortedshelves.errors import TooGreat, Unlike
from sortedshelves.graphs import LETTERS


def comp_error(value):
    """What is wrong with the value as a comparison: "comp", "letters", "rows", "verdicts", or None."""
    if not isinstance(value, tuple) or len(value) != 3:
        return "comp"
    letters, rows, verdicts = value
    if not is_number(letters, 1, MAX_LETTERS):
        return "letters"
    if not isinstance(rows, tuple) or not 1 <= len(rows) <= MAX_STANDS:
        return "rows"
    if not all([is_comp_row(row, letters, len(rows)) for row in rows]):
        return "rows"
    if not isinstance(verdicts, tuple) or len(verdicts) != len(rows):
        return "verdicts"
    if not all([is_number(verdict, -1, 1) for verdict in verdicts]):
        return "verdicts"
    return None


def is_comp_row(value, letters, many):
    """Whether the value is one of so many rows of a comparison."""
    if not isinstance(value, tuple) or len(value) != len(columns(letters)):
        return False
    return all([is_number(item, 0, many - 1) for item in value])


def columns(letters):
    """The pairs of signs in the order of the columns; the number of letters stands for the end."""
    pairs = []
    for first in range(letters + 1):
        for second in range(letters + 1):
            if first < letters or second < letters:
                pairs.append((first, second))
    return pairs


def tells(comp, one, other):
    """The verdict of the comparison on the two words."""
    letters, rows, verdicts = comp
    row = 0
    for place in range(max(len(one), len(other))):
        # The pair of both ends stands behind all columns, so a column's number is told by its signs alone.
        row = rows[row][sign_at(one, place, letters) * (letters + 1) + sign_at(other, place, letters)]
    return verdicts[row]


def sign_at(word, place, letters):
    """The number of the letter at this place; behind the word that of the end, the number of letters."""
    return LETTERS.index(word[place]) if place < len(word) else letters


def by_ranks(letters, ranks):
    """The comparison by the ranks of the first letters that have unlike ones; a beginning is less."""
    first_row = tuple([ranked(first, second, ranks) for first, second in columns(letters)])
    return (letters, (first_row, (1,) * len(first_row), (2,) * len(first_row)), (0, -1, 1))


def ranked(first, second, ranks):
    """The row that by_ranks goes to for a column: 1 where its first sign is less, 2 where its second one is."""
    if first == len(ranks):
        return 1
    if second == len(ranks):
        return 2
    if ranks[first] == ranks[second]:
        return 0
    return 1 if ranks[first] < ranks[second] else 2


def by_length(letters):
    """The comparison by which a shorter word is less, and words of one length are the same."""
    return by_ranks(letters, (0,) * letters)


def turned(comp):
    """The comparison with the contrary verdicts."""
    letters, rows, verdicts = comp
    return (letters, rows, tuple([-verdict for verdict in verdicts]))


def then(one, other):
    """The comparison that tells what one tells, and where that is 0 what other tells."""
    if one[0] != other[0]:
        raise Unlike()
    numbers = {(0, 0): 0}
    pairs = [(0, 0)]
    rows = []
    while len(rows) < len(pairs):
        left, right = pairs[len(rows)]
        row = []
        for pair in zip(one[1][left], other[1][right]):
            if pair not in numbers:
                numbers[pair] = len(pairs)
                pairs.append(pair)
            row.append(numbers[pair])
        if len(pairs) > MAX_STANDS:
            raise TooGreat()
        rows.append(tuple(row))
    verdicts = [one[2][left] if one[2][left] != 0 else other[2][right] for left, right in pairs]
    return (one[0], tuple(rows), tuple(verdicts))
