"""Words of a kind read side by side: signs, where words stand, and the graphs of pairs with a comparison.

Here a sign is a number, 0 for the end and 1 on for the letters, so that signs are in the order of the
words that they make. A pair of signs (x, y) has the number x * (letters + 1) + y.
"""

from sortedshelves.graphs import LETTERS, smallest_marked, trimmed


def side_by_side(letters, many):
    """All tuples of so many signs, in order; the first one, the ends alone, is no step."""
    rows = [()]
    for _ in range(many):
        rows = [(*row, sign) for row in rows for sign in range(letters + 1)]
    return rows


def by_signs(comp):
    """For each row of the comparison a list with the next row for each pair of signs; both ends leave it."""
    letters, rows, _ = comp
    wide = letters + 1
    table = []
    for number, row in enumerate(rows):
        found = [number]
        for pair in range(1, wide * wide):
            # The comparison has its columns in the same order, but for the end behind the letters.
            found.append(row[(pair // wide - 1) % wide * wide + (pair % wide - 1) % wide])
        table.append(found)
    return table


def standing(kind):
    """For each state of the kind, and behind these for a word that has ended, the next one for each sign.

    None where no word of the kind goes on so.
    """
    letters, rows, ends = kind
    ended = len(rows)
    found = [[ended if end else None] + row for end, row in zip(ends, trimmed(rows, ends))]
    return found + [[ended] + [None] * letters]


def may_end(kind):
    """For each state of the kind, and behind these for a word that has ended, whether the word may end there."""
    return list(kind[2]) + [True]


def pair_graph(kind, comp, marks):
    """The smallest graph of the pairs of words of the kind by what the comparison tells of them.

    Its rows have a state or None for each pair of signs. marks has an integer for each of the
    verdicts -1, 0, 1; a state has that of its verdict, 0 if the words cannot both end there. What
    leads to no mark but 0 is left out; only state 0 is always there.
    """
    wide = kind[0] + 1
    stands, stops, table = standing(kind), may_end(kind), by_signs(comp)
    numbers = {(0, 0, 0): 0}
    nodes = [(0, 0, 0)]
    rows = []
    while len(rows) < len(nodes):
        one, other, held = nodes[len(rows)]
        found = [None]
        for pair in range(1, wide * wide):
            left, right = stands[one][pair // wide], stands[other][pair % wide]
            if left is None or right is None:
                found.append(None)
                continue
            node = (left, right, table[held][pair])
            if node not in numbers:
                numbers[node] = len(nodes)
                nodes.append(node)
            found.append(numbers[node])
        rows.append(found)
    told = [marks[comp[2][held] + 1] if stops[one] and stops[other] else 0 for one, other, held in nodes]
    return smallest_marked(rows, told, len(rows))


def mirrored(rows, letters):
    """The rows with each pair of signs exchanged."""
    wide = letters + 1
    places = [pair % wide * wide + pair // wide for pair in range(wide * wide)]
    return [[row[place] for place in places] for row in rows]


def first_together(signs, start, ways, wanted):
    """The first words that, read side by side, lead from the node start to one that is wanted; None if none do.

    They are a tuple, first by the longest of them, then in Python's order. Nodes are integers from
    0 on. signs has a tuple of signs, one for each word, for each step; ways returns as many nodes
    behind a node, less than 0 where there is none.
    """
    levels = [[start]]
    seen = {start: True}
    while levels[-1]:
        goals = {node: True for node in levels[-1] if wanted(node)}
        if goals:
            return first_words(signs, levels, ways, goals)
        further = []
        for node in levels[-1]:
            for target in ways(node):
                if target >= 0 and target not in seen:
                    seen[target] = True
                    further.append(target)
        levels.append(further)
    return None


def first_words(signs, levels, ways, goals):
    """The first words through the levels, of which the last one has the goals.

    All words that lead to a goal in as many steps go through these levels. So each word is taken,
    sign by sign, from what leads to a goal beside the words ahead of it.
    """
    many = len(signs[0])
    fixed = [[] for _ in levels[1:]]
    levels = levels[:-1] + [list(goals)]
    for at in range(many):
        places = [[place for place, row in enumerate(signs) if list(row[:at]) == held] for held in fixed]
        good = leading_on(levels, ways, places)
        levels = [levels[0]]
        for step, further in enumerate(good):
            found = by_sign(signs, at, places[step], [ways(node) for node in levels[-1]], further)
            fixed[step].append(min(list(found)))
            levels.append(list(found[fixed[step][-1]]))
    return tuple([spelled_signs([row[at] for row in fixed]) for at in range(many)])


def leading_on(levels, ways, places):
    """For each level but the first one the nodes that lead to the last level, by the signs at these places."""
    good = [{node: True for node in levels[-1]}]
    for step in range(len(levels) - 2, 0, -1):
        last, open_places = good[-1], places[step]
        found = {}
        for node in levels[step]:
            row = ways(node)
            if any([row[place] in last for place in open_places]):
                found[node] = True
        good.append(found)
    return good[::-1] if places else []


def by_sign(signs, at, places, rows, good):
    """The good nodes that the signs at these places lead to, parted by the sign of the word number at."""
    found = {}
    for row in rows:
        for place in places:
            if row[place] in good:
                sign = signs[place][at]
                if sign not in found:
                    found[sign] = {}
                found[sign][row[place]] = True
    return found


def spelled_signs(signs):
    """The word of the signs, of which those behind its end are 0."""
    return "".join([LETTERS[sign - 1] for sign in signs if sign > 0])
