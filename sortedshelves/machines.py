"""Words and machines: what is of them, how many words, the smallest ones, and machines made of others."""

from math import gcd

from sortedshelves.bounds import MAX_LETTERS, MAX_ROWS
from sortedshelves.checks import is_number
from sortedshelves.errors import TooGreat
from sortedshelves.graphs import LETTERS, bits, first_word, joined_bits, reached, smallest_graph, sources, useful


def machine_error(value):
    """What is wrong with the value as a machine: "machine", "letters", "rows", "ends", or None."""
    if not isinstance(value, tuple) or len(value) != 3:
        return "machine"
    letters, rows, ends = value
    if not is_number(letters, 1, MAX_LETTERS):
        return "letters"
    if not isinstance(rows, tuple) or not 1 <= len(rows) <= MAX_ROWS:
        return "rows"
    if not all([is_row(row, letters, len(rows)) for row in rows]):
        return "rows"
    if not isinstance(ends, tuple) or len(ends) != len(rows):
        return "ends"
    if not all([isinstance(end, bool) for end in ends]):
        return "ends"
    return None


def is_row(value, letters, states):
    """Whether the value is a row of a machine with so many letters and states."""
    if not isinstance(value, tuple) or len(value) != letters:
        return False
    return all([item is None or is_number(item, 0, states - 1) for item in value])


def is_of(machine, word):
    """Whether the word is of the machine."""
    _, rows, ends = machine
    state = 0
    for sign in word:
        state = rows[state][LETTERS.index(sign)]
        if state is None:
            return False
    return ends[state]


def told(machine, length, most):
    """The first words of the machine with this length, in order, at most so many."""
    _, rows, ends = machine
    tables = reaching(rows, ends, length)
    heads = [("", 0)] if tables[length][0] else []
    for left in range(length - 1, -1, -1):
        # Every head can be finished, so only the first heads begin the words that are asked for.
        heads = further(rows, heads[:most], tables[left])
    return tuple([word for word, _ in heads[:most]])


def reaching(rows, ends, length):
    """For each length up to this one, and each state, whether a word of this length leads to an end."""
    tables = [list(ends)]
    for _ in range(length):
        last = tables[-1]
        tables.append([any([item is not None and last[item] for item in row]) for row in rows])
    return tables


def further(rows, heads, good):
    """The beginnings of words that are one letter longer than these, where they come to good states."""
    longer = []
    for word, state in heads:
        for letter, target in enumerate(rows[state]):
            if target is not None and good[target]:
                longer.append((word + LETTERS[letter], target))
    return longer


def count(machine, length):
    """How many words of this length are of the machine."""
    return counts(machine, length + 1)[length]


def counts(machine, many):
    """How many words are of the machine, for each of so many lengths, from 0 on."""
    _, rows, ends = machine
    ways = {0: 1}
    numbers = []
    for _ in range(many):
        numbers.append(sum([ways[state] for state in ways if ends[state]]))
        ways = onward(rows, ways)
    return numbers


def onward(rows, ways):
    """By how many words of one letter more each state is come to, told the same of those so far."""
    longer = {}
    for state in ways:
        for target in rows[state]:
            if target is not None:
                longer[target] = longer.get(target, 0) + ways[state]
    return longer


def size(machine):
    """How many words are of the machine; None if they are without end."""
    _, rows, ends = machine
    leads = useful(rows, ends)
    clean = [[item if item is not None and leads[item] else None for item in row] for row in rows]
    ways = {0: 1} if leads[0] else {}
    number = 0
    for _ in rows:
        number += sum([ways[state] for state in ways if ends[state]])
        ways = onward(clean, ways)
    # A beginning of a word that has as many letters as there are states went round a ring.
    return None if ways else number


def goes_on(machine):
    """The shortest tuple by which each count follows from those ahead of it."""
    # As many items as states are enough, and twice as many counts settle the shortest tuple.
    return shortest_rule(counts(machine, 2 * len(machine[1])))


def shortest_rule(numbers):
    """The shortest tuple (c1, ..., ck) by which each number behind the first k follows from those ahead.

    The way of Berlekamp and Massey, with integers only: the rule so far is held as integers
    (r0, ..., rk) with r0 times a number and so on up to rk times the k-th one ahead adding up to 0.
    """
    rule, length = [1], 0
    older, missed, gap = [1], 1, 1
    for at in range(len(numbers)):
        miss = sum([rule[k] * numbers[at - k] for k in range(length + 1)])
        if miss == 0:
            gap += 1
            continue
        mended = without_factor(mend(rule, missed, older, miss, gap))
        if 2 * length <= at:
            older, missed, gap = rule, miss, 1
            length = at + 1 - length
        else:
            gap += 1
        rule = mended + [0] * (length + 1 - len(mended))
    return tuple([-rule[k] // rule[0] for k in range(1, length + 1)])


def mend(rule, missed, older, miss, gap):
    """The rule times missed, less the older rule, so many places later, times miss."""
    mended = [missed * part for part in rule]
    mended += [0] * (len(older) + gap - len(rule))
    for k, part in enumerate(older):
        mended[k + gap] -= miss * part
    return mended


def without_factor(parts):
    """The integers divided by their greatest common divisor."""
    divisor = 0
    for part in parts:
        divisor = gcd(divisor, part)
    return [part // divisor for part in parts]


def smallest(machine):
    """The smallest machine of the words of the machine."""
    letters, rows, ends = machine
    return smallest_graph(letters, rows, ends)


def both(one, other):
    """The smallest machine of the words that are of one and of other."""
    return paired(one, other, lambda left, right: left and right)


def either(one, other):
    """The smallest machine of the words that are of one or of other."""
    return paired(one, other, lambda left, right: left or right)


def less(one, other):
    """The smallest machine of the words that are of one and not of other."""
    return paired(one, other, lambda left, right: left and not right)


def paired(one, other, ended):
    """The smallest machine of the words for which ended, told whether they are of one and of other, is True."""
    first, first_ends = completed(one)
    second, second_ends = completed(other)
    wide = len(second)
    numbers = {0: 0}
    nodes = [0]
    rows = []
    while len(rows) < len(nodes):
        left, right = divmod(nodes[len(rows)], wide)
        row = [item * wide + beside for item, beside in zip(first[left], second[right])]
        for node in row:
            if node not in numbers:
                numbers[node] = len(nodes)
                nodes.append(node)
        rows.append([numbers[node] for node in row])
    ends = [ended(first_ends[node // wide], second_ends[node % wide]) for node in nodes]
    return smallest_graph(one[0], rows, ends)


def completed(machine):
    """The rows and ends with one more state, to which all lead that led to None."""
    letters, rows, ends = machine
    sink = len(rows)
    full = [[sink if item is None else item for item in row] for row in rows]
    return full + [[sink] * letters], list(ends) + [False]


def begins(machine):
    """The smallest machine of all beginnings of the words of the machine."""
    letters, rows, ends = machine
    return smallest_graph(letters, rows, useful(rows, ends))


def backwards(machine):
    """The smallest machine of the words of the machine read from the last letter to the first.

    Its states are the sets of states from which one word leads to an end: unlike sets of states
    that are come to are never the same in what follows, so these are the fewest. A set is held
    as an integer with a bit for each state.
    """
    letters, rows, ends = machine
    order = reached(rows)
    before = [[bits(held) for held in ways] for ways in sources(letters, rows, order)]
    start = bits([state for state in order if ends[state]])
    numbers = {start: 0}
    sets = [start]
    done = []
    while len(done) < len(sets):
        row = []
        for ways in before:
            behind = joined_bits(ways, sets[len(done)])
            if behind and behind not in numbers:
                numbers[behind] = len(sets)
                sets.append(behind)
            row.append(numbers[behind] if behind else None)
        if len(sets) > MAX_ROWS:
            raise TooGreat()
        done.append(tuple(row))
    return (letters, tuple(done), tuple([held & 1 == 1 for held in sets]))


def apart(one, other):
    """The first word that is of just one of both, or None."""
    first, first_ends = completed(one)
    second, second_ends = completed(other)
    wide = len(second)

    def goes(node):
        return [item * wide + beside for item, beside in zip(first[node // wide], second[node % wide])]

    def wanted(node):
        return first_ends[node // wide] != second_ends[node % wide]

    return first_word(0, goes, wanted)
