"""Machines beside a limit and a form: what their words that keep the limit can be worth.

A node is a state with a count, and has the number count * states + state. Letters that count lead to
greater numbers, so all rings of nodes have one count and are made of letters that do not count.
"""

from heapq import heapify, heappop, heappush

from sortedshelves.graphs import LETTERS, first_word, knots, raised

# Stands for a worth without end; no word that fits into a machine's memory is worth as much.
ENDLESS = 1000000000000000


class Knot:
    """States of which each leads to each other one by letters that do not count."""

    def __init__(self, members, quiet, form):
        inside = {state: True for state in members}
        edges = []
        for state in members:
            for letter, target in enumerate(quiet[state]):
                if target in inside:
                    edges.append((target, state, form[letter], letter))
        self.members = members
        self.heights = {state: 0 for state in members}
        self.ring = raised(edges, self.heights, len(members))
        self.before = {state: [] for state in members}
        for target, state, gain, _ in edges:
            self.before[target].append((state, self.heights[state] - gain - self.heights[target]))


class Counted:
    """A machine with a limit and a form.

    ways has for each state a list with (letter, by how much the node's number grows, worth) for each
    of its letters; finish has for each node the greatest worth of the words that lead from there to
    an end and keep the limit, ENDLESS, or None if there is no such word; rings has a word that is
    worth more than 0 for some state of each knot that such a word leads round.
    """

    def __init__(self, machine, limit, form):
        self.letters, rows, self.ends = machine
        unit, most = limit
        self.states = len(rows)
        self.nodes = len(rows) * (most + 1)
        self.ways = [[] for _ in rows]
        for state, row in enumerate(rows):
            for letter, target in enumerate(row):
                if target is not None:
                    step = unit[letter] * len(rows) + target - state
                    self.ways[state].append((letter, step, form[letter]))
        quiet = [[item if part == 0 else None for item, part in zip(held, unit)] for held in rows]
        parts = [Knot(members, quiet, form) for members in knots(quiet)]
        self.rings = {}
        for knot in parts:
            if knot.ring is not None:
                self.rings[knot.ring[0][1]] = "".join([LETTERS[edge[3]] for edge in knot.ring])
        self.finish = [None] * self.nodes
        for start in range(self.nodes - self.states, -1, -self.states):
            for knot in parts:
                self.finish_knot(knot, start)

    def finish_knot(self, knot, start):
        """Tell finish for the states of the knot, beside the count whose first node is start.

        It is told already for all nodes that are led to, but not in the knot. The way of Dijkstra:
        beside the heights of the knot each letter in it loses something or nothing.
        """
        exits = [(state, self.exit_worth(start + state)) for state in knot.members]
        exits = [(state, number) for state, number in exits if number is not None]
        if exits and (knot.ring is not None or any([number == ENDLESS for _, number in exits])):
            for state in knot.members:
                self.finish[start + state] = ENDLESS
            return
        queue = [(knot.heights[state] - number, state) for state, number in exits]
        heapify(queue)
        while queue:
            lost, state = heappop(queue)
            if self.finish[start + state] is None:
                self.finish[start + state] = knot.heights[state] - lost
                for source, loss in knot.before[state]:
                    heappush(queue, (lost + loss, source))

    def exit_worth(self, node):
        """The greatest worth of the words that end here or go on to a node of which finish tells, or None."""
        found = 0 if self.ends[node % self.states] else None
        for _, step, gain in self.ways[node % self.states]:
            if node + step >= self.nodes or self.finish[node + step] is None:
                continue
            number = self.finish[node + step]
            if number == ENDLESS:
                return ENDLESS
            if found is None or found < number + gain:
                found = number + gain
        return found

    def goes(self, node):
        """The nodes behind a node from which the limit can be kept, for each letter; None where there is none."""
        found = [None] * self.letters
        for letter, step, _ in self.ways[node % self.states]:
            if node + step < self.nodes and self.finish[node + step] is not None:
                found[letter] = node + step
        return found

    def goes_best(self, node):
        """Of these nodes those by which nothing of the greatest worth is lost."""
        found = self.goes(node)
        for letter, step, gain in self.ways[node % self.states]:
            if found[letter] is not None and self.finish[node + step] + gain != self.finish[node]:
                found[letter] = None
        return found

    def after(self, word):
        """The node that the word leads to."""
        node = 0
        for sign in word:
            node = self.goes(node)[LETTERS.index(sign)]
        return node


def greatest_kept(counted):
    """The greatest worth of the words that keep the limit, as the document has it for greatest."""
    number = counted.finish[0]
    if number is None:
        return ("none",)
    if number == ENDLESS:
        return ring_kept(counted)

    def goes(node):
        return counted.goes_best(node)

    def wanted(node):
        return counted.ends[node % counted.states] and counted.finish[node] == 0

    return ("most", number, first_word(0, goes, wanted))


def ring_kept(counted):
    """Three words that show that there is no greatest worth."""

    def goes(node):
        return counted.goes(node)

    def on_ring(node):
        return node % counted.states in counted.rings

    def ended(node):
        return counted.ends[node % counted.states]

    ahead = first_word(0, goes, on_ring)
    node = counted.after(ahead)
    return ("ring", ahead, counted.rings[node % counted.states], first_word(node, goes, ended))


def first_above(counted, bound):
    """The first word that keeps the limit and is worth more than the bound, or None."""
    if counted.finish[0] is None or counted.finish[0] <= bound:
        return None
    best = [-ENDLESS] * counted.nodes
    level = {0: 0}
    levels = [level]
    raise_best(best, level, counted.states)
    while not ended_above(counted, level, bound):
        level = longer(counted, level, best, bound)
        levels.append(level)
        raise_best(best, level, counted.states)
    return first_through(counted, levels, bound)


def longer(counted, level, best, bound):
    """The nodes that one more letter leads to from the level, with the greatest worth of what leads there.

    Left out is what no word leads on above the bound, and what a shorter word makes needless,
    that counts as little or less and is worth as much or more.
    """
    states, nodes, finish, ways = counted.states, counted.nodes, counted.finish, counted.ways
    found = {}
    for node in level:
        for _, step, gain in ways[node % states]:
            target = node + step
            if target >= nodes or finish[target] is None:
                continue
            number = level[node] + gain
            if number > best[target] and number + finish[target] > bound:
                if target not in found or found[target] < number:
                    found[target] = number
    return found


def raise_best(best, level, states):
    """Let best have, for each node, the greatest worth so far beside a count of at most its own."""
    nodes = len(best)
    for node in level:
        for other in range(node, nodes, states):
            if best[other] >= level[node]:
                break
            best[other] = level[node]


def ended_above(counted, level, bound):
    """The ends on the level whose worth is above the bound."""
    return [node for node in level if level[node] > bound and counted.ends[node % counted.states]]


def first_through(counted, levels, bound):
    """The first word through the levels that ends above the bound on the last one.

    The greatest worths tell how long it is, but it may itself be worth less on its way. So the levels
    are taken up, from the last one on, for what a word must be worth at least to come above the bound.
    """
    needs = [{node: bound + 1 for node in ended_above(counted, levels.pop(), bound)}]
    while levels:
        needs.append(needed(counted, levels.pop(), needs[-1]))
    needs.pop()
    signs = []
    node = number = 0
    while needs:
        letter, node, number = first_step(counted, node, number, needs.pop())
        signs.append(LETTERS[letter])
    return "".join(signs)


def needed(counted, level, needs):
    """For the nodes of the level the least worth from which a letter comes to the needs, where they have it."""
    found = {}
    for node in level:
        least = ENDLESS
        for _, step, gain in counted.ways[node % counted.states]:
            least = min(least, needs.get(node + step, ENDLESS) - gain)
        if least <= level[node]:
            found[node] = least
    return found


def first_step(counted, node, number, needs):
    """The first letter by which the needs are come to, with the node and the worth behind it."""
    for letter, step, gain in counted.ways[node % counted.states]:
        if number + gain >= needs.get(node + step, ENDLESS):
            return letter, node + step, number + gain
    return None
