"""Tables of the words that answer a query."""

from sortedshelves.explored import explored
from sortedshelves.fixed import Fixed
from sortedshelves.graphs import LETTERS
from sortedshelves.seen import Seen
from sortedshelves.tables import ALWAYS, NEVER, Numbered, Table

# What comp tells of a word and the one that stands in the query, if the word answers it.
VERDICTS = {"below": -1, "like": 0, "above": 1}


class Denied:
    """The table of the words that a table does not tell."""

    def __init__(self, table):
        self.table = table
        self.start = exchanged(table.start)

    def step(self, state, letter):
        """The state behind the letter."""
        return exchanged(self.table.step(exchanged(state), letter))

    def is_end(self, state):
        """Whether a word that comes to the state is told."""
        return not self.table.is_end(exchanged(state))


def exchanged(state):
    """The state, but NEVER for ALWAYS and ALWAYS for NEVER."""
    if state >= 0:
        return state
    return NEVER if state == ALWAYS else ALWAYS


class Joined(Numbered):
    """The table of the words that all of some tables tell, or some of them; nodes are tuples of their states."""

    def __init__(self, tables, every):
        self.tables, self.every = tables, every
        super().__init__(self.decided([table.start for table in tables]))

    def decided(self, states):
        """The node of the states; NEVER or ALWAYS if these tell it."""
        settling, neutral = (NEVER, ALWAYS) if self.every else (ALWAYS, NEVER)
        if settling in states:
            return settling
        return neutral if all([state == neutral for state in states]) else tuple(states)

    def behind(self, node, letter):
        """The node behind the letter, NEVER or ALWAYS."""
        return self.decided([table.step(state, letter) for table, state in zip(self.tables, node)])

    def node_ends(self, node):
        """Whether a word that comes to the node is told."""
        told = [table.is_end(state) for table, state in zip(self.tables, node)]
        return all(told) if self.every else any(told)


def table_of(comp, query):
    """The table of the words that answer the query."""
    name = query[0]
    if name in VERDICTS:
        return compared(comp, query[1], VERDICTS[name])
    if name == "is":
        return found_in(comp[0], query[1], True)
    if name == "has":
        return found_in(comp[0], query[1], False)
    if name == "of":
        return Table(query[1][1], query[1][2])
    if name == "seen":
        return Seen(query[1], table_of(comp, query[2]))
    if name == "not":
        return Denied(table_of(comp, query[1]))
    return Joined([table_of(comp, held) for held in query[1]], name == "all")


def compared(comp, word, verdict):
    """The table of the words that comp tells the verdict of beside the word."""
    fixed = Fixed(comp, word, False, verdict)

    def goes(node):
        place, row = node
        targets = [fixed.on(place, row, letter + 1) for letter in range(comp[0])]
        return [None if target is None else (min(place + 1, len(word)), target) for target in targets]

    rows, nodes = explored((0, 0), goes)
    return Table(rows, [fixed.stop(place, row) for place, row in nodes])


def found_in(letters, piece, alone):
    """The table of the word that is the piece, if it is to stand alone, or of those in which it stands."""

    def goes(begun):
        if begun == piece and not alone:
            return [begun] * letters
        return [longest_end(piece, begun + letter, alone) for letter in LETTERS[:letters]]

    rows, nodes = explored("", goes)
    return Table(rows, [begun == piece for begun in nodes])


def longest_end(piece, text, alone):
    """The longest end of the text that begins the piece; if alone, the whole text or None."""
    for place in range(1 if alone else len(text)):
        if piece.startswith(text[place:]):
            return text[place:]
    return None if alone else ""
