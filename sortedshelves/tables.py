"""What is told of words state by state, with what is decided for all that may follow.

A table has a state to start from, step for the state behind a letter, and is_end for whether a word
that comes to a state is told. States are integers from 0 on, NEVER or ALWAYS.
"""

from sortedshelves.graphs import LETTERS, smallest_marked

# The states in which no word, and each word, that goes on from there is told.
NEVER = -1
ALWAYS = -2


class Table:
    """The table of the words of a graph, with the fewest states."""

    def __init__(self, rows, ends):
        found, marks = smallest_marked(rows, [1 if end else 0 for end in ends], len(rows))
        fixed = {None: NEVER}
        for state, row in enumerate(found):
            if marks[state] and all([target == state for target in row]):
                fixed[state] = ALWAYS
        if not marks[0] and all([target is None for target in found[0]]):
            fixed[0] = NEVER
        self.start = fixed.get(0, 0)
        self.rows = [[fixed.get(target, target) for target in row] for row in found]
        self.ends = [mark == 1 for mark in marks]

    def step(self, state, letter):
        """The state behind the letter."""
        return state if state < 0 else self.rows[state][letter]

    def is_end(self, state):
        """Whether a word that comes to the state is told."""
        return state == ALWAYS or state >= 0 and self.ends[state]


class Numbered:
    """A table whose states are worked out, and numbered, as they are come to: each stands for a tuple, its node.

    Classes that derive from it tell what is behind a node, another one, NEVER or ALWAYS, and whether
    a word may end there.
    """

    def __init__(self, node):
        self.numbers, self.nodes, self.ways = {}, [], []
        self.start = self.number(node)

    def number(self, node):
        """The state that stands for the node; NEVER and ALWAYS for themselves."""
        if not isinstance(node, tuple):
            return node
        if node not in self.numbers:
            self.numbers[node] = len(self.nodes)
            self.nodes.append(node)
            self.ways.append([None] * len(LETTERS))
        return self.numbers[node]

    def step(self, state, letter):
        """The state behind the letter."""
        if state < 0:
            return state
        if self.ways[state][letter] is None:
            self.ways[state][letter] = self.number(self.behind(self.nodes[state], letter))
        return self.ways[state][letter]

    def is_end(self, state):
        """Whether a word that comes to the state is told."""
        return state == ALWAYS or state >= 0 and self.node_ends(self.nodes[state])

    def behind(self, node, letter):
        """The node behind the letter, NEVER or ALWAYS; derived classes tell it."""
        raise NotImplementedError(f"no way from {node} by {letter}")

    def node_ends(self, node):
        """Whether a word that comes to the node is told; derived classes tell it."""
        raise NotImplementedError(f"no end at {node}")


def after(table, state, text):
    """The state of the table behind the text."""
    for sign in text:
        if state < 0:
            break
        state = table.step(state, LETTERS.index(sign))
    return state
