"""Ways to pick words, and sets of what they keep of words that are read.

What is kept is an integer from 0 on; a set of it is an integer with bit k + 1 for k, and bit 0 for a
word that is picked and has ended.
"""

from sortedshelves.fixed import Fixed
from sortedshelves.graphs import LETTERS


class Over:
    """Picks the words that a fixed word is below: keeps the row of the comparison of both."""

    def __init__(self, comp, word):
        self.fixed = Fixed(comp, word, True, -1)
        self.long, self.start, self.many = len(word), 0, len(comp[1])

    def on(self, place, kept, sign):
        """What is kept behind the letter at the place; None if no word that is picked goes on so."""
        return self.fixed.on(place, kept, sign)

    def stop(self, place, kept):
        """Whether a word that ends at the place is picked."""
        return self.fixed.stop(place, kept)


class Without:
    """Picks all words but some: keeps the number of a beginning of these, 0 for any other beginning."""

    def __init__(self, words):
        self.long, self.many = 0, 1
        self.ways = [{}]
        self.left_out = [False]
        self.start = self.added() if words else 0
        for word in words:
            at = self.start
            for letter in word:
                sign = LETTERS.index(letter) + 1
                if sign not in self.ways[at]:
                    self.ways[at][sign] = self.added()
                at = self.ways[at][sign]
            self.left_out[at] = True

    def added(self):
        """The number of a new beginning."""
        self.ways.append({})
        self.left_out.append(False)
        return len(self.ways) - 1

    def on(self, _, kept, sign):
        """What is kept behind the letter."""
        return self.ways[kept].get(sign, 0)

    def stop(self, _, kept):
        """Whether a word that ends here is picked."""
        return not self.left_out[kept]


class Kept:
    """The sets of what a picking keeps.

    whole is the set of what is kept as a rule; the picking may keep greater numbers for some beginnings.
    """

    def __init__(self, picking):
        self.picking, self.long = picking, picking.long
        self.whole = (1 << picking.many + 1) - 1
        self.sources, self.targets = {}, {}

    def sources_of(self, place, sign, held):
        """The set of what is kept as a rule and the sign, 0 for the end, leads into the set."""
        if (place, sign, held) not in self.sources:
            found = held & 1 if sign == 0 else 0
            for number in range(self.picking.many):
                target = self.bit_on(place, number, sign)
                found |= 1 << number + 1 if held & target else 0
            self.sources[place, sign, held] = found
        return self.sources[place, sign, held]

    def moved(self, place, sign, held):
        """The set that the sign, 0 for the end, leads to from the set."""
        if (place, sign, held) not in self.targets:
            found = held & 1 if sign == 0 else 0
            for number in members(held >> 1):
                found |= self.bit_on(place, number, sign)
            self.targets[place, sign, held] = found
        return self.targets[place, sign, held]

    def bit_on(self, place, number, sign):
        """The set of what the sign leads to where this is kept; it has one member or none."""
        if sign == 0:
            return 1 if self.picking.stop(place, number) else 0
        further = self.picking.on(place, number, sign)
        return 0 if further is None else 1 << further + 1


def members(held):
    """The places of the bits of the integer."""
    found = []
    while held:
        number = held.bit_length() - 1
        held -= 1 << number
        found.append(number)
    return found
