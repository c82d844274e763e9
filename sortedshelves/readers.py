"""Lines as machines that read a word letter by letter and put letters down.

What a step puts down of a beginning of a word begins its image, so letters are put down as soon as
they are known. A step keeps an integer or a text of what it has read (the count of a cut, the turn
of a pass, what a swap has not put down yet); None once nothing more of the word matters to it.
"""

from sortedshelves.graphs import LETTERS

# The number of the state of a reader that puts nothing more down.
ENDED = 0


class Reader:
    """A line that is read along: its states have numbers, which are given as the states are come to."""

    def __init__(self, line):
        self.line = line
        self.start = 1
        self.numbers = {}
        # For each state what the steps keep, for each letter (next state, text put down), and what an end puts down.
        self.held = [None]
        self.ways = [[(ENDED, "")] * len(LETTERS)]
        self.rests = [""]
        self.number(tuple([begun(step) for step in line]))

    def number(self, held):
        """The number of the state in which the steps keep this."""
        if held not in self.numbers:
            self.numbers[held] = len(self.held)
            self.held.append(held)
            self.ways.append([None] * len(LETTERS))
            self.rests.append(None)
        return self.numbers[held]

    def way(self, state, letter):
        """The next state by the letter, and the text that is put down."""
        if self.ways[state][letter] is None:
            held, text = read(self.line, self.held[state], LETTERS[letter])
            self.ways[state][letter] = (ENDED if held is None else self.number(held), text)
        return self.ways[state][letter]

    def rest(self, state):
        """The text that is put down if the word ends in this state."""
        if self.rests[state] is None:
            self.rests[state] = put_at_end(self.line, self.held[state], 0, "")
        return self.rests[state]


def read(line, held, text):
    """What the steps keep behind the text, and what is put down; None and all that is, once nothing more matters."""
    kept = []
    for at, step in enumerate(line):
        found, text = fed(step, held[at], text)
        if found is None:
            return None, put_at_end(line, held, at + 1, text)
        kept.append(found)
    return tuple(kept), text


def put_at_end(line, held, first, text):
    """What the steps from the first one on put down of the text, behind which the word ends."""
    for at in range(first, len(line)):
        found, text = fed(line[at], held[at], text)
        if line[at][0] == "swap":
            text += settled(line[at][1], found[1:], True)[1]
    return text


def begun(step):
    """What the step keeps ahead of the first letter."""
    return "+" if step[0] == "swap" else 0


def fed(step, held, text):
    """What the step keeps behind the text, and what it puts down of it."""
    if step[0] == "cut":
        return fed_cut(step[1], step[2], held, text)
    if step[0] == "stop":
        head, found, _ = text.partition(step[1])
        return (None if found else held), head
    if step[0] == "pass":
        return fed_pass(step[1], step[2], held, text)
    return fed_swap(step[1], held, text)


def fed_cut(unit, most, held, text):
    """What fed returns for a cut, which keeps the count."""
    for place, sign in enumerate(text):
        held += unit[LETTERS.index(sign)]
        if held > most:
            return None, text[:place]
    return held, text


def fed_pass(rows, outs, held, text):
    """What fed returns for a pass, which keeps the turn."""
    signs = []
    for sign in text:
        letter = LETTERS.index(sign)
        signs.append(outs[held][letter])
        held = rows[held][letter]
    return held, "".join(signs)


def fed_swap(pairs, held, text):
    """What fed returns for a swap, which keeps "+" and what may begin a piece, or "-" behind the exchange."""
    if held == "-":
        return held, text
    done, head, tail = settled(pairs, held[1:] + text, False)
    return ("-" if done else "+" + tail), head


def settled(pairs, text, ended):
    """Whether a piece of the text is exchanged, what is put down of it, and what is not known yet.

    ended tells whether the word ends behind the text.
    """
    for place in range(len(text)):
        piece, partner = piece_at(pairs, text[place:], ended)
        if partner is None:
            return False, text[:place], text[place:]
        if piece:
            return True, text[:place] + partner + text[place + len(piece):], ""
    return False, text, ""


def piece_at(pairs, text, ended):
    """The piece with which the text begins and its partner; two empty texts if none; ("", None) if it is not known."""
    for one, other in pairs:
        for piece, partner in ((one, other), (other, one)):
            if text.startswith(piece):
                return piece, partner
            if not ended and piece.startswith(text):
                return "", None
    return "", ""
