"""Graphs that are worked out node by node, and what can be told of them before they are whole."""

from sortedshelves.bounds import MAX_ROWS
from sortedshelves.errors import TooGreat
from sortedshelves.graphs import smallest_graph

# After so many nodes, and each time there are so many times as many, it is asked whether the result is too great.
FIRST_CHECK = 1500
CHECK_AGAIN = 4

# How many rounds through all nodes such a check may take.
ROUNDS = 25


def smallest_explored(start, goes, is_end):
    """The smallest machine of the words that lead from the node start to an end; TooGreat if it is too great.

    goes returns the nodes behind a node, one for each letter, None where there is none. A graph of
    very many nodes is mostly known to be too great long before it is whole.
    """
    numbers = {start: 0}
    nodes = [start]
    rows = []
    check = FIRST_CHECK
    while len(rows) < len(nodes):
        row, targets = [], goes(nodes[len(rows)])
        for target in targets:
            if target is not None and target not in numbers:
                numbers[target] = len(nodes)
                nodes.append(target)
            row.append(None if target is None else numbers[target])
        rows.append(row)
        if len(rows) == check:
            check *= CHECK_AGAIN
            if shows_too_many(rows, [is_end(node) for node in nodes]):
                raise TooGreat()
    return smallest_graph(len(rows[0]), rows, [is_end(node) for node in nodes])


def explored(start, goes):
    """The numbers of the nodes behind each node that the node start leads to, and all these nodes."""
    numbers = {start: 0}
    nodes = [start]
    rows = []
    while len(rows) < len(nodes):
        found = goes(nodes[len(rows)])
        for target in found:
            if target is not None and target not in numbers:
                numbers[target] = len(nodes)
                nodes.append(target)
        rows.append([None if target is None else numbers[target] for target in found])
    return rows, nodes


def shows_too_many(rows, ends):
    """Whether the nodes so far show that the smallest machine has more than MAX_ROWS states.

    ends is told for all nodes, rows only for the first ones. Nodes are parted by the words up to
    some length that lead to an end, as far as these are all known; parted ones are never the same.
    """
    many, classes, nothing = len(rows), [1 if end else 0 for end in ends], 0
    left = ROUNDS * many
    while many > MAX_ROWS and left > 0:
        many = known_on(rows, many, len(classes))
        left -= many
        numbers = {(0,) + (nothing,) * len(rows[0]): 0}
        found = []
        for row, end in zip(rows[:many], ends):
            sign = (1 if end else 0,) + tuple([nothing if target is None else classes[target] for target in row])
            if sign not in numbers:
                numbers[sign] = len(numbers)
            found.append(numbers[sign])
        # One of them may be that of the nodes that lead to no end.
        if len(numbers) > MAX_ROWS + 1:
            return True
        classes, nothing = found, 0
    return False


def known_on(rows, many, known):
    """How many of the first nodes, at most so many, have only known nodes behind them."""
    for number in range(many):
        for target in rows[number]:
            if target is not None and target >= known:
                return number
    return many
