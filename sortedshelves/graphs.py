"""Graphs: rows and ends as a machine has them, but of any number of states, and what is found in them."""

from sortedshelves.bounds import MAX_ROWS
from sortedshelves.errors import TooGreat

LETTERS = "abc"


def reached(rows):
    """The states that words come to from state 0, in the order of their first words."""
    order = [0]
    known = [False] * len(rows)
    known[0] = True
    at = 0
    while at < len(order):
        state = order[at]
        for target in rows[state]:
            if target is not None and not known[target]:
                known[target] = True
                order.append(target)
        at += 1
    return order


def sources(letters, rows, order):
    """For each letter and each state those states of order that the letter leads there from."""
    before = [[[] for _ in rows] for _ in range(letters)]
    for state in order:
        for letter, target in enumerate(rows[state]):
            if target is not None:
                before[letter][target].append(state)
    return before


def leading(before, goals, many):
    """For each of so many states whether one of the goals can be come to from it."""
    leads = [False] * many
    for state in goals:
        leads[state] = True
    found = list(goals)
    while found:
        state = found.pop()
        for ways in before:
            for source in ways[state]:
                if not leads[source]:
                    leads[source] = True
                    found.append(source)
    return leads


def leaving_order(rows):
    """The states in the order in which a search into the depth leaves them for good."""
    order = []
    known = [False] * len(rows)
    for root in range(len(rows)):
        path = [] if known[root] else [(root, 0)]
        known[root] = True
        while path:
            state, letter = path.pop()
            if letter == len(rows[state]):
                order.append(state)
                continue
            path.append((state, letter + 1))
            target = rows[state][letter]
            if target is not None and not known[target]:
                known[target] = True
                path.append((target, 0))
    return order


def knots(rows):
    """The states parted into lists of those that lead to one another; each behind all others it leads to.

    The way of Kosaraju: from the state that was left last, against the arrows, only its own
    knot is come to; and so on without the states that are taken.
    """
    before = sources(len(rows[0]), rows, list(range(len(rows))))
    taken = [False] * len(rows)
    found = []
    for root in leaving_order(rows)[::-1]:
        if taken[root]:
            continue
        taken[root] = True
        members = []
        waiting = [root]
        while waiting:
            state = waiting.pop()
            members.append(state)
            for ways in before:
                for source in ways[state]:
                    if not taken[source]:
                        taken[source] = True
                        waiting.append(source)
        found.append(members)
    return found[::-1]


def raised(edges, heights, many):
    """Raise heights until each edge (tail, head, gain, letter) leads from one to one at least gain above it.

    heights is a dict for at most so many states; it is changed, and gets the states that edges lead to.
    Returns None; or, where this has no end, the edges of a ring that gains, each behind the one that
    its tail is the head of.
    """
    came = {}
    last = None
    for _ in range(many):
        last = None
        for edge in edges:
            tail, head, gain, _ = edge
            if tail in heights and (head not in heights or heights[head] < heights[tail] + gain):
                heights[head] = heights[tail] + gain
                came[head] = edge
                last = head
        if last is None:
            return None
    # A way without a ring would have been settled by now, so the last one raised is behind a ring.
    return ring_behind(came, last)


def ring_behind(came, state):
    """The edges of the ring that is come to from this state against the edges by which states were raised."""
    for _ in range(len(came)):
        state = came[state][0]
    ring = [came[state]]
    while ring[-1][0] != state:
        ring.append(came[ring[-1][0]])
    return ring


def useful(rows, ends):
    """For each state whether some word on its way from state 0 to an end goes through it."""
    order = reached(rows)
    before = sources(len(rows[0]), rows, order)
    return leading(before, [state for state in order if ends[state]], len(rows))


def trimmed(rows, ends):
    """The rows with None in the place of the states that lead to no end."""
    leads = useful(rows, ends)
    return [[target if target is not None and leads[target] else None for target in row] for row in rows]


def smallest_graph(letters, rows, ends):
    """The smallest machine of the words of the graph; TooGreat if it has too many states."""
    found, marks = smallest_marked(rows, [1 if end else 0 for end in ends], MAX_ROWS)
    return (letters, found, tuple([mark == 1 for mark in marks]))


def smallest_marked(rows, marks, most):
    """The rows and marks of the smallest graph that leads each word to the same mark.

    marks has an integer for each state, 0 where no word ends; what leads to no other mark is left
    out. TooGreat if there are more states than most.
    """
    order = reached(rows)
    before = sources(len(rows[0]), rows, order)
    leads = leading(before, [state for state in order if marks[state]], len(rows))
    if not leads[0]:
        return ((None,) * len(rows[0]),), (0,)
    block, members = first_blocks(rows, marks, [state for state in order if leads[state]], leads)
    refine(before, block, members, most)
    return numbered(rows, marks, block)


def first_blocks(rows, marks, states, leads):
    """These states parted by their marks and by the letters that go on from them.

    The block of each state, None for those left out, and the states of each block.
    """
    block = [None] * len(rows)
    numbers = {}
    members = []
    for state in states:
        sign = marks[state]
        for target in rows[state]:
            sign = 2 * sign + (1 if target is not None and leads[target] else 0)
        if sign not in numbers:
            numbers[sign] = len(members)
            members.append([])
        block[state] = numbers[sign]
        members[numbers[sign]].append(state)
    return block, members


def refine(before, block, members, most):
    """Part the blocks until states of one block lead words to the same marks; changes block and members.

    The way of Hopcroft: where a block was parted, only the smaller part has to be looked at again.
    TooGreat if there are more blocks than most.
    """
    sizes = [len(held) for held in members]
    waiting = [True] * len(members)
    queue = list(range(len(members)))
    while queue:
        if len(members) > most:
            raise TooGreat()
        chosen = queue.pop()
        waiting[chosen] = False
        # States that were moved to later blocks are still in the older lists.
        held = [state for state in members[chosen] if block[state] == chosen]
        members[chosen] = held
        for ways in before:
            touched = {}
            for state in held:
                for source in ways[state]:
                    if block[source] in touched:
                        touched[block[source]].append(source)
                    else:
                        touched[block[source]] = [source]
            for old in touched:
                if len(touched[old]) < sizes[old]:
                    move(old, touched[old], block, members, sizes)
                    queue.append(look_again(old, sizes, waiting))


def move(old, moved, block, members, sizes):
    """Move these states of the old block into a new one."""
    for state in moved:
        block[state] = len(members)
    members.append(moved)
    sizes.append(len(moved))
    sizes[old] -= len(moved)


def look_again(old, sizes, waiting):
    """The block that has to be looked at after the last one was parted from the old one."""
    new = len(waiting)
    waiting.append(False)
    chosen = new if waiting[old] or sizes[new] <= sizes[old] else old
    waiting[chosen] = True
    return chosen


def numbered(rows, marks, block):
    """The rows and marks of the blocks, numbered in the order of the first words that come to them."""
    numbers = {block[0]: 0}
    picked = [0]
    done = []
    while len(done) < len(picked):
        row = []
        state = picked[len(done)]
        for target in rows[state]:
            if target is None or block[target] is None:
                row.append(None)
                continue
            if block[target] not in numbers:
                numbers[block[target]] = len(picked)
                picked.append(target)
            row.append(numbers[block[target]])
        done.append(tuple(row))
    return tuple(done), tuple([marks[first] for first in picked])


def first_word(start, goes, wanted):
    """The first word that leads from the node start to a node that is wanted, or None.

    goes returns the nodes behind a node, one for each letter, None where there is none.
    """
    if wanted(start):
        return ""
    came = {start: None}
    edge = [start]
    while edge:
        further = []
        for node in edge:
            for letter, target in enumerate(goes(node)):
                if target is None or target in came:
                    continue
                came[target] = (node, letter)
                if wanted(target):
                    return spelled(came, target)
                further.append(target)
        edge = further
    return None


def spelled(came, node):
    """The word by which the node was come to."""
    signs = []
    while came[node] is not None:
        node, letter = came[node]
        signs.append(LETTERS[letter])
    return "".join(signs[::-1])


def bits(states):
    """The set of these states as an integer."""
    held = 0
    for state in states:
        held |= 1 << state
    return held


def joined_bits(ways, held):
    """All that ways has for the states in the set, together."""
    found = 0
    while held:
        state = held.bit_length() - 1
        held -= 1 << state
        found |= ways[state]
    return found
