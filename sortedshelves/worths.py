"""The greatest worth of the images of a kind."""

from sortedshelves.forms import worth
from sortedshelves.graphs import first_word, knots, raised, trimmed
from sortedshelves.readers import Reader

# Stands for a worth without end; no word that fits into a machine's memory is worth as much.
ENDLESS = 1000000000000000


class Worths:
    """The words of a kind by what their images are worth: nodes are numbers of (state, reader's state)."""

    def __init__(self, kind, line, form):
        kept, reader = trimmed(kind[1], kind[2]), Reader(line)
        numbers = {(0, reader.start): 0}
        nodes = [(0, reader.start)]
        self.rows, self.gains, self.exits = [], [], []
        while len(self.rows) < len(nodes):
            state, held = nodes[len(self.rows)]
            row, gains = [], []
            for letter, target in enumerate(kept[state]):
                after, text = reader.way(held, letter)
                node = None if target is None else (target, after)
                if node is not None and node not in numbers:
                    numbers[node] = len(nodes)
                    nodes.append(node)
                row.append(numbers.get(node))
                gains.append(worth(form, text))
            self.rows.append(row)
            self.gains.append(gains)
            self.exits.append(worth(form, reader.rest(held)) if kind[2][state] else None)
        # For each node the greatest worth of what words put down from there on, or ENDLESS.
        self.finish = [None] * len(nodes)

    def finish_knot(self, members):
        """Tell finish for the members of a knot, where it is told for all nodes that they lead to elsewhere."""
        found, edges = {}, []
        for node in members:
            numbers = [] if self.exits[node] is None else [self.exits[node]]
            for letter, target in enumerate(self.rows[node]):
                gain = self.gains[node][letter]
                if target is not None and self.finish[target] is None:
                    edges.append((target, node, gain, letter))
                elif target is not None:
                    numbers.append(ENDLESS if self.finish[target] == ENDLESS else self.finish[target] + gain)
            if numbers:
                found[node] = max(numbers)
        endless = max(found.values()) == ENDLESS or raised(edges, found, len(members)) is not None
        for node in members:
            self.finish[node] = ENDLESS if endless else found[node]


def first_greatest(kind, line, form):
    """The greatest worth of an image of the kind with the first word that has such an image, or why there is none."""
    held = Worths(kind, line, form)
    if held.exits[0] is None and all([target is None for target in held.rows[0]]):
        return ("none",)
    for members in knots(held.rows):
        held.finish_knot(members)
    finish, rows, gains = held.finish, held.rows, held.gains
    if finish[0] == ENDLESS:
        return ("ring",)

    def goes(node):
        found = []
        for target, gain in zip(rows[node], gains[node]):
            found.append(target if target is not None and finish[target] + gain == finish[node] else None)
        return found

    def wanted(node):
        return held.exits[node] == finish[node]

    return ("most", finish[0], first_word(0, goes, wanted))
