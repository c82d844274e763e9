"""Whether a comparison is an order on a kind, what shows that it is none, and papers that show that it is one."""

from sortedshelves.graphs import first_word
from sortedshelves.pairs import first_together, mirrored, pair_graph, side_by_side
from sortedshelves.papers import first_paper, is_paper

# Marks of the verdicts -1, 0, 1 for pair_graph: all of them apart, and some of them alone.
APART = (1, 2, 3)
NOT_ABOVE = (1, 1, 0)
ABOVE = (0, 0, 1)
LIKE = (0, 1, 0)

# Makes a sum negative whatever is added to it.
NOWHERE = -1000000000000000


def self_fault(kind, comp):
    """The first word of the kind of which comp does not tell 0 beside itself, or None."""
    letters, rows, ends = kind
    _, table, verdicts = comp
    many = len(table)

    def goes(node):
        state, row = node // many, table[node % many]
        found = []
        for letter, target in enumerate(rows[state]):
            found.append(None if target is None else target * many + row[letter * (letters + 2)])
        return found

    def wanted(node):
        return ends[node // many] and verdicts[node % many] != 0

    return first_word(0, goes, wanted)


def turn_fault(kind, comp):
    """The first pair of words of the kind of which comp does not tell the contrary with both exchanged, or None."""
    rows, marks = pair_graph(kind, comp, APART)
    return first_pair(kind[0], (rows, marks), (mirrored(rows, kind[0]), marks), lambda one, other: one + other != 4)


def unlike(kind, one, other):
    """The first pair of words of the kind of which one and other tell unlike verdicts, or None."""
    first, second = pair_graph(kind, one, APART), pair_graph(kind, other, APART)
    return first_pair(kind[0], first, second, lambda left, right: left != right)


def first_pair(letters, one, other, wanted):
    """The first pair of words that both graphs have marks for, and wanted ones; None if there is none.

    Both are graphs of the pairs of the same words, so that they have ways on for the same signs.
    """
    first, first_marks = one
    second, second_marks = other
    many = len(second)

    def ways(node):
        left_row, right_row = first[node // many], second[node % many]
        return [-1 if left is None else left * many + right for left, right in zip(left_row, right_row)]

    def marked(node):
        left, right = first_marks[node // many], second_marks[node % many]
        return left > 0 and right > 0 and wanted(left, right)

    return first_together(side_by_side(letters, 2), 0, ways, marked)


def chain_fault(kind, comp):
    """The first triple of words of the kind that shows that comp is no chain, or None.

    comp tells -1 or 0 of the first and the second one, and of the second and the third one, but 1 of
    the first and the third one.
    """
    signs = side_by_side(kind[0], 3)
    chained, chained_marks = pair_graph(kind, comp, NOT_ABOVE)
    broken, broken_marks = pair_graph(kind, comp, ABOVE)
    wide, many = len(chained), len(broken)
    first = third_apart(kind[0], chained, chained_marks, signs, (0, 1), wide * many)
    second = third_apart(kind[0], chained, chained_marks, signs, (1, 2), many)
    third = third_apart(kind[0], broken, broken_marks, signs, (0, 2), 1)

    def ways(node):
        rest = node % (wide * many)
        ahead, behind, across = first[node // (wide * many)], second[rest // many], third[rest % many]
        return [one + two + three for one, two, three in zip(ahead, behind, across)]

    def wanted(node):
        rest = node % (wide * many)
        one, two, three = node // (wide * many), rest // many, rest % many
        return chained_marks[one] > 0 and chained_marks[two] > 0 and broken_marks[three] > 0

    return first_together(signs, 0, ways, wanted)


def third_apart(letters, rows, marks, signs, words, weight):
    """What each state of a graph of pairs adds to the node behind each step of three words.

    words has the two of the three that the graph is of. If both end while the third one goes on,
    the state stays; it must be one where both may end.
    """
    one, other = words
    places = [row[one] * (letters + 1) + row[other] for row in signs]
    found = []
    for state, row in enumerate(rows):
        stays = state if marks[state] else None
        targets = [stays if place == 0 else row[place] for place in places]
        found.append([NOWHERE if target is None else target * weight for target in targets])
        # No word goes on at this step.
        found[-1][0] = NOWHERE
    return found


def first_fault(kind, comp):
    """What shows that comp is no order on the kind: a word, a pair, a triple; or None."""
    fault = self_fault(kind, comp)
    if fault is None:
        fault = turn_fault(kind, comp)
    if fault is None:
        fault = chain_fault(kind, comp)
    return fault


def is_order(kind, comp):
    """Whether comp is an order on the kind."""
    return first_fault(kind, comp) is None


def order_paper(kind, comp):
    """A paper that shows that comp is an order on the kind; None if it is none."""
    return first_paper(kind, comp) if is_order(kind, comp) else None


def paper_holds(kind, comp, value):
    """Whether the value is a paper that shows that comp is an order on the kind."""
    return is_paper(kind, comp, value)


def tie(kind, comp):
    """The first pair of unlike words of the kind of which comp tells 0, or None."""
    signs = side_by_side(kind[0], 2)
    rows, marks = pair_graph(kind, comp, LIKE)
    unlikes = [1 if one != other else 0 for one, other in signs]

    def ways(node):
        row, differs = rows[node // 2], node % 2
        return [-1 if target is None else target * 2 + max(differs, more) for target, more in zip(row, unlikes)]

    def wanted(node):
        return node % 2 == 1 and marks[node // 2] > 0

    return first_together(signs, 0, ways, wanted)
