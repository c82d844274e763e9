"""First words that no word is below, among those words of a kind that are picked in some way.

A word is read together with all words that may be below it. What these come to is held as pairs of a
state of the graph of the pairs of words of the kind of which the first one is below the second one,
and a set of what the picking keeps of the first one: an integer with bit 0 for a word that is picked
and has ended, bit k + 1 for one of which k is kept.
"""

from sortedshelves.graphs import first_word, trimmed
from sortedshelves.pairs import pair_graph
from sortedshelves.picking import Kept, Over, Without, members

# Marks of the verdicts -1, 0, 1 for pair_graph.
BELOW = (1, 0, 0)


class Under:
    """The pairs of words of a kind of which the first one is below the second one.

    couples has the pairs of a state of the kind, to which the second word comes, and one of the graph
    of the pairs; ways has for each of these, and for each letter by which the second word may go on,
    the pairs (sign of the first word, number of the couple behind).
    """

    def __init__(self, kind, comp):
        self.rows, self.ends, self.wide = trimmed(kind[1], kind[2]), kind[2], kind[0] + 1
        self.pairs, self.marks = pair_graph(kind, comp, BELOW)
        self.couples = [(0, 0)]
        self.numbers = {(0, 0): 0}
        self.ways = []
        while len(self.ways) < len(self.couples):
            state, pair = self.couples[len(self.ways)]
            found = []
            for letter, target in enumerate(self.rows[state]):
                if target is not None:
                    found.append(self.behind(target, self.pairs[pair], letter + 1))
            self.ways.append(found)

    def behind(self, state, row, sign):
        """For the sign of the second word, which comes to the state: the signs of the first one, and the couples."""
        found = []
        for own in range(self.wide):
            pair = row[own * self.wide + sign]
            if pair is not None:
                if (state, pair) not in self.numbers:
                    self.numbers[state, pair] = len(self.couples)
                    self.couples.append((state, pair))
                found.append((own, self.numbers[state, pair]))
        return found


class Tables:
    """What is known ahead of the words of which something is kept, for each place up to where nothing changes.

    threats has, for each state of the graph of the pairs, the set of what becomes a word below where
    the second word ends. dooms has for each couple the set of what can become one wherever the
    second word ends, and whatever letters it goes on by, without looking at letters ahead.
    """

    def __init__(self, under, kept):
        self.threats = [lasting_threats(under, kept)]
        self.dooms = [lasting_dooms(under, kept, self.threats[0])]
        for place in range(kept.long - 1, -1, -1):
            self.threats.append(threats_at(under, kept, place, self.threats[-1]))
            self.dooms.append(dooms_at(under, kept, place, self.threats[-1], self.dooms[-1]))
        self.threats, self.dooms = self.threats[::-1], self.dooms[::-1]


def lasting(further, found):
    """What further makes of this, again and again, until nothing changes."""
    last = None
    while found != last:
        last = found
        found = further(last)
    return found


def lasting_threats(under, kept):
    """The threats at the last place, behind which nothing changes."""
    return lasting(lambda last: threats_at(under, kept, kept.long, last), [0] * len(under.pairs))


def lasting_dooms(under, kept, threats):
    """The dooms at the last place, told the threats there."""
    return lasting(lambda last: dooms_at(under, kept, kept.long, threats, last), [kept.whole] * len(under.couples))


def threats_at(under, kept, place, behind):
    """The threats at a place, told those behind one more letter."""
    found = []
    for row, mark in zip(under.pairs, under.marks):
        held = kept.sources_of(place, 0, 1) if mark else 0
        for own in range(1, under.wide):
            target = row[own * under.wide]
            if target is not None:
                held |= kept.sources_of(place, own, behind[target])
        found.append(held)
    return found


def dooms_at(under, kept, place, threats, behind):
    """The dooms at a place, told the threats there and the dooms behind one more letter."""
    found = []
    for (state, pair), ways in zip(under.couples, under.ways):
        held = threats[pair] if under.ends[state] else kept.whole
        for options in ways:
            doomed = 0
            for own, target in options:
                doomed |= kept.sources_of(place, own, behind[target])
            held &= doomed
        found.append(held)
    return found


class Lowest:
    """The search: nodes are (place, state of the kind, what is kept, pairs that words that may be below come to)."""

    def __init__(self, under, picking, tables):
        self.under, self.picking, self.tables = under, picking, tables
        self.kept = Kept(picking)
        self.alone = {}

    def begin(self):
        """The first node, or None if no word is found."""
        held = {0: 1 << self.picking.start + 1}
        return None if self.is_doomed(0, 0, held) else (0, 0, self.picking.start, ((0, held[0]),))

    def is_doomed(self, place, state, held):
        """Whether there will be a word below, whatever follows."""
        numbers, dooms = self.under.numbers, self.tables.dooms[place]
        return any([held[pair] & dooms[numbers[state, pair]] for pair in held])

    def goes(self, node):
        """The nodes behind this one, for each letter, or None where there is none, or no word is found."""
        place, state, own, held = node
        found = []
        for letter, target in enumerate(self.under.rows[state]):
            further = None if target is None else self.picking.on(place, own, letter + 1)
            if further is not None:
                moved = self.moved(place, held, letter + 1)
                after = min(place + 1, self.picking.long)
                if not self.is_doomed(after, target, moved):
                    found.append((after, target, further, tuple(sorted(moved.items()))))
                    continue
            found.append(None)
        return found

    def moved(self, place, held, sign):
        """What the words that may be below come to behind the sign, with the sets of what is kept of them."""
        found = {}
        wide = self.under.wide
        for pair, kept in held:
            row = self.under.pairs[pair]
            for own in range(wide):
                target = row[own * wide + sign]
                further = 0 if target is None else self.kept.moved(place, own, kept)
                if further:
                    found[target] = found.get(target, 0) | further
        return found

    def is_lowest(self, node):
        """Whether a word that comes here is picked and has no word that is picked below it."""
        place, state, own, held = node
        if not self.under.ends[state] or not self.picking.stop(place, own):
            return False
        for pair, kept in held:
            usual = kept & self.kept.whole
            if usual & self.tables.threats[place][pair]:
                return False
            if any([self.threatens(number - 1, pair) for number in members(kept - usual)]):
                return False
        return True

    def threatens(self, kept, pair):
        """Whether a word of which this is kept, and not as a rule, becomes one below where the other one ends."""
        start = (kept, pair)
        if start not in self.alone:
            order = [start]
            seen = {start: True}
            while order and not self.is_below(order[-1]):
                longer = self.longer(order.pop())
                for target in longer:
                    if target not in seen:
                        seen[target] = True
                        order.append(target)
            self.alone[start] = len(order) > 0
        return self.alone[start]

    def is_below(self, node):
        """Whether the word is picked and below the other one if it ends here, too; or if this is known to come."""
        kept, pair = node
        if kept < self.picking.many:
            return self.tables.threats[0][pair] & 1 << kept + 1 > 0
        return self.under.marks[pair] > 0 and self.picking.stop(0, kept)

    def longer(self, node):
        """What the word comes to by one more letter, as far as it is not kept as a rule."""
        kept, pair = node
        found = []
        for own in range(1, self.under.wide):
            target = self.under.pairs[pair][own * self.under.wide]
            if target is not None and kept >= self.picking.many:
                found.append((self.picking.on(0, kept, own), target))
        return found


def lowest_word(under, picking, tables):
    """The first word that is picked and has no word that is picked below it, or None."""
    search = Lowest(under, picking, tables)

    def goes(node):
        return search.goes(node)

    def is_lowest(node):
        return search.is_lowest(node)

    start = search.begin()
    return None if start is None else first_word(start, goes, is_lowest)


def lowest_words(kind, comp, many):
    """So many words, each the first one that no word of the kind without those ahead is below, up to where none is."""
    under = Under(kind, comp)
    tables = Tables(under, Kept(Without([])))
    found = []
    while len(found) < many:
        word = lowest_word(under, Without(found), tables)
        if word is None:
            break
        found.append(word)
    return tuple(found)


def lowest_above(kind, comp, word):
    """The first word of the kind that word is below, and that no such word is below, or None."""
    under, picking = Under(kind, comp), Over(comp, word)
    return lowest_word(under, picking, Tables(under, Kept(picking)))
