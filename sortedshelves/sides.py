"""Pairs of words of a kind read side by side, with what a line puts down of both.

What both have put down is held as two texts, the letters by which each is ahead of the other one;
at most one of them is not empty, and it is short, as a line puts down each letter soon or never.
"""

from sortedshelves.graphs import leading, sources
from sortedshelves.pairs import may_end, pair_graph, standing
from sortedshelves.readers import ENDED, Reader

# Marks of the verdicts -1, 0, 1 for pair_graph.
NOT_ABOVE = (1, 1, 0)
ABOVE_OR_NOT = (2, 2, 1)

# Stands for a row in which the verdict of the images is 1, whatever follows.
ABOVE = -1


def lead(one, other, one_ended, other_ended):
    """The texts without what they have in common at their beginnings; None if they cannot become the same.

    A text that has ended gets no more letters.
    """
    many = min(len(one), len(other))
    if one[:many] != other[:many]:
        return None
    if one_ended and len(other) > many or other_ended and len(one) > many:
        return None
    return one[many:], other[many:]


def read_on(reader, state, sign):
    """The reader's state behind the sign, and the text that is put down."""
    return (ENDED, reader.rest(state)) if sign == 0 else reader.way(state, sign - 1)


class Sides:
    """What words of a kind come to, read beside a line: numbers for stands of the kind with states of the reader."""

    def __init__(self, kind, line):
        self.reader = Reader(line)
        self.stands, self.stops = standing(kind), may_end(kind)
        self.start = self.reader.start * len(self.stands)
        self.known = {}

    def further(self, side):
        """For each sign the next number and the text put down, or None."""
        if side not in self.known:
            held, stand = divmod(side, len(self.stands))
            found = []
            for sign, target in enumerate(self.stands[stand]):
                if target is None:
                    found.append(None)
                    continue
                state, text = read_on(self.reader, held, sign)
                found.append((state * len(self.stands) + target, text))
            self.known[side] = found
        return self.known[side]

    def ended(self, side):
        """Whether nothing more is put down."""
        return side // len(self.stands) == ENDED

    def may_end(self, side):
        """Whether the word may end here."""
        return self.stops[side % len(self.stands)]

    def rest(self, side):
        """The text that is put down if the word ends here."""
        return self.reader.rest(side // len(self.stands))


class Losing:
    """The search for two words with one image: nodes are numbers of (side, side, text ahead, text ahead, unlike)."""

    def __init__(self, kind, line):
        self.sides = Sides(kind, line)
        start = (self.sides.start, self.sides.start, "", "", False)
        self.numbers = {start: 0}
        self.nodes = [start]

    def further(self, number):
        """The nodes behind this one, for each pair of signs; -1 where there is none."""
        one, other, first, second, unlike = self.nodes[number]
        found = []
        for left, one_way in enumerate(self.sides.further(one)):
            for right, other_way in enumerate(self.sides.further(other)):
                # As long as both are the same, the second one goes on as the first one or gets the greater sign.
                if one_way is None or other_way is None or not unlike and left > right:
                    found.append(-1)
                else:
                    differs = unlike or left != right
                    found.append(self.behind(one_way, other_way, first, second, differs))
        found[0] = -1
        return found

    def behind(self, one_way, other_way, first, second, unlike):
        """The node behind the sides' ways, or -1."""
        one, text = one_way
        other, beside = other_way
        ahead = lead(first + text, second + beside, self.sides.ended(one), self.sides.ended(other))
        if ahead is None:
            return -1
        node = (one, other, ahead[0], ahead[1], unlike)
        if node not in self.numbers:
            self.numbers[node] = len(self.nodes)
            self.nodes.append(node)
        return self.numbers[node]

    def wanted(self, number):
        """Whether unlike words with one image may end here."""
        one, other, first, second, unlike = self.nodes[number]
        if not unlike or not self.sides.may_end(one) or not self.sides.may_end(other):
            return False
        return first + self.sides.rest(one) == second + self.sides.rest(other)


class Unsorting:
    """The search for two words that are sorted while their images are not.

    Nodes are numbers of (state, reader's state, reader's state, text ahead, text ahead, row): the state
    is one of the graph of the pairs of the kind that are sorted, the row one of the graph of the
    pairs of any words. Behind ABOVE nothing is told but the state.
    """

    def __init__(self, kind, comp, line):
        self.reader = Reader(line)
        self.wide = kind[0] + 1
        self.rows, self.marks = pair_graph(kind, comp, NOT_ABOVE)
        every = (kind[0], ((0,) * kind[0],), (True,))
        self.table, self.verdict_marks = pair_graph(every, comp, ABOVE_OR_NOT)
        before = sources(self.wide * self.wide, self.table, list(range(len(self.table))))
        self.may_be, self.may_not_be = [
            leading(before, [row for row, mark in enumerate(self.verdict_marks) if mark == wanted], len(self.table))
            for wanted in (1, 2)
        ]
        start = (0, self.reader.start, self.reader.start, "", "", self.decided(0))
        self.numbers = {start: 0}
        self.nodes = [start]
        self.known = {}

    def decided(self, row):
        """The row; ABOVE if it is decided that the verdict is 1, None if it is decided that it is not."""
        if not self.may_be[row]:
            return None
        return row if self.may_not_be[row] else ABOVE

    def further(self, number):
        """The nodes behind this one, for each pair of signs; -1 where there is none."""
        state = self.nodes[number][0]
        found = []
        for pair, target in enumerate(self.rows[state]):
            found.append(-1 if target is None else self.behind(number, pair, target))
        return found

    def behind(self, number, pair, target):
        """The node behind this one by the pair of signs, or -1."""
        images = self.nodes[number][1:]
        if (images, pair) not in self.known:
            self.known[images, pair] = self.images_on(images, pair)
        images = self.known[images, pair]
        if images is None:
            return -1
        node = (target, *images)
        if node not in self.numbers:
            self.numbers[node] = len(self.nodes)
            self.nodes.append(node)
        return self.numbers[node]

    def images_on(self, images, pair):
        """What the readers and the row come to by the pair of signs; None if the images' verdict is not 1 then."""
        one, other, first, second, row = images
        if row is None or row == ABOVE:
            return None if row is None else images
        one, text = read_on(self.reader, one, pair // self.wide)
        other, beside = read_on(self.reader, other, pair % self.wide)
        first, second, row = self.compared(first + text, second + beside, one == ENDED, other == ENDED, row)
        if one == ENDED and other == ENDED and row is not None:
            row = ABOVE if self.verdict_marks[row] == 1 else None
        if row is not None and row != ABOVE:
            row = self.decided(row)
        if row is None:
            return None
        return (ENDED, ENDED, "", "", ABOVE) if row == ABOVE else (one, other, first, second, row)

    def compared(self, one, other, one_ended, other_ended, row):
        """The texts without what was compared, and the row behind that."""
        many = max(len(one), len(other))
        if not one_ended:
            many = min(many, len(one))
        if not other_ended:
            many = min(many, len(other))
        for place in range(many):
            row = self.table[row][sign_at(one, place) * self.wide + sign_at(other, place)]
        return one[many:], other[many:], row

    def wanted(self, number):
        """Whether sorted words whose images are not sorted may end here."""
        state, one, other, first, second, row = self.nodes[number]
        if not self.marks[state] or row is None or row == ABOVE:
            return self.marks[state] > 0 and row == ABOVE
        first, second = first + self.reader.rest(one), second + self.reader.rest(other)
        return self.verdict_marks[self.compared(first, second, True, True, row)[2]] == 1


def sign_at(text, place):
    """The sign of the letter at this place; behind the text that of the end."""
    return "abc".index(text[place]) + 1 if place < len(text) else 0
