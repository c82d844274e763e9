"""Steps and lines of steps: what is one, and what comes of a word."""

from sortedshelves.bounds import MAX_CUT, MAX_LINE, MAX_PAIRS, MAX_PASS, MAX_PIECE
from sortedshelves.checks import is_number, is_unit, is_word
from sortedshelves.graphs import LETTERS


def line_error(letters, value):
    """What is wrong with the value as a line for so many letters: (None or an index, a word), or None."""
    if not isinstance(value, tuple):
        return (None, "line")
    for index, step in enumerate(value):
        if not is_step(step, letters):
            return (index, "step")
    if len(value) > MAX_LINE:
        return (None, "many")
    return None


def is_step(value, letters):
    """Whether the value is a step for so many letters."""
    if not isinstance(value, tuple) or len(value) < 2:
        return False
    name = value[0]
    if name == "cut":
        return len(value) == 3 and is_unit(value[1], letters) and is_number(value[2], 0, MAX_CUT)
    if name == "stop":
        return len(value) == 2 and is_letter(value[1], letters)
    if name == "pass":
        return len(value) == 3 and is_turning(value[1], letters) and is_putting(value[2], letters, len(value[1]))
    if name == "swap":
        return len(value) == 2 and is_swapping(value[1], letters)
    return False


def is_letter(value, letters):
    """Whether the value is one of so many letters."""
    return is_word(value, letters, 1) and len(value) == 1


def is_turning(value, letters):
    """Whether the value is the rows of a pass."""
    if not isinstance(value, tuple) or not 1 <= len(value) <= MAX_PASS:
        return False
    for row in value:
        if not isinstance(row, tuple) or len(row) != letters:
            return False
        if not all([is_number(turn, 0, len(value) - 1) for turn in row]):
            return False
    return True


def is_putting(value, letters, turns):
    """Whether the value is the outs of a pass with so many turns."""
    if not isinstance(value, tuple) or len(value) != turns:
        return False
    for row in value:
        if not isinstance(row, tuple) or len(row) != letters:
            return False
        if not all([is_letter(sign, letters) for sign in row]):
            return False
    return True


def is_swapping(value, letters):
    """Whether the value is the pairs of a swap."""
    if not isinstance(value, tuple) or not 1 <= len(value) <= MAX_PAIRS:
        return False
    pieces = []
    for pair in value:
        if not isinstance(pair, tuple) or len(pair) != 2:
            return False
        if not all([is_word(piece, letters, MAX_PIECE) for piece in pair]):
            return False
        if len(pair[0]) != len(pair[1]):
            return False
        pieces.extend(pair)
    # This keeps off the empty word, too: beside it only the empty word has its length.
    return len(set(pieces)) == len(pieces)


def image(line, word):
    """What comes of the word by the line."""
    for step in line:
        word = stepped(step, word)
    return word


def stepped(step, word):
    """What comes of the word by the step."""
    if step[0] == "cut":
        return cut(step[1], step[2], word)
    if step[0] == "stop":
        return word.partition(step[1])[0]
    if step[0] == "pass":
        return passed(step[1], step[2], word)
    return swapped(step[1], word)


def cut(unit, most, word):
    """The longest beginning of the word whose count is at most most."""
    number = 0
    for place, sign in enumerate(word):
        number += unit[LETTERS.index(sign)]
        if number > most:
            return word[:place]
    return word


def passed(rows, outs, word):
    """What is put down where the word is read from turn 0 on."""
    turn = 0
    signs = []
    for sign in word:
        letter = LETTERS.index(sign)
        signs.append(outs[turn][letter])
        turn = rows[turn][letter]
    return "".join(signs)


def swapped(pairs, word):
    """The word with the first piece of the pairs that stands in it exchanged for its partner."""
    first = len(word)
    found = ("", "")
    for one, other in pairs:
        for piece, partner in ((one, other), (other, one)):
            place = word.find(piece)
            # At one place the pair told first goes ahead, so only a lesser place counts.
            if 0 <= place < first:
                first = place
                found = (piece, partner)
    return word[:first] + found[1] + word[first + len(found[0]):]
