"""Fixed words read beside others, with what a comparison tells of both.

Behind the last letter of a fixed word all goes on the same way, so places count up to there.
"""

from sortedshelves.graphs import LETTERS
from sortedshelves.pairs import by_signs


class Fixed:
    """A fixed word beside one that is read: the rows that a comparison comes to, and which verdict is wanted.

    first tells whether the fixed word is the first one of both. For each place and each row, stops
    has the verdict if the other word ends there, hopes whether that can still become the wanted one.
    """

    def __init__(self, comp, word, first, verdict):
        self.word, self.long = word, len(word)
        self.first, self.verdict = first, verdict
        self.table, self.wide = by_signs(comp), comp[0] + 1
        self.stops = [list(comp[2])]
        self.hopes = [self.last_hopes()]
        for place in range(self.long - 1, -1, -1):
            pair, stops = self.pair(place, 0), self.stops[-1]
            self.stops.append([stops[row[pair]] for row in self.table])
            self.hopes.append(self.hoped(place, self.stops[-1], self.hopes[-1]))
        self.stops, self.hopes = self.stops[::-1], self.hopes[::-1]

    def last_hopes(self):
        """For each row whether the verdict can be the wanted one behind the fixed word."""
        stops = self.stops[0]
        found = [False] * len(self.table)
        for _ in self.table:
            found = self.hoped(self.long, stops, found)
        return found

    def hoped(self, place, stops, hopes):
        """For each row at the place whether the verdict can be the wanted one, told the hopes behind a letter."""
        pairs = [self.pair(place, sign) for sign in range(1, self.wide)]
        found = []
        for number, row in enumerate(self.table):
            found.append(stops[number] == self.verdict or any([hopes[row[pair]] for pair in pairs]))
        return found

    def pair(self, place, sign):
        """The number of the pair of signs at the place, where the other word has this sign."""
        own = LETTERS.index(self.word[place]) + 1 if place < self.long else 0
        return own * self.wide + sign if self.first else sign * self.wide + own

    def on(self, place, row, sign):
        """The row behind the sign that the other word has at the place; None if there is no hope."""
        row = self.table[row][self.pair(place, sign)]
        return row if self.hopes[min(place + 1, self.long)][row] else None

    def stop(self, place, row):
        """Whether the verdict is the wanted one if the other word ends at the place."""
        return self.stops[min(place, self.long)][row] == self.verdict
