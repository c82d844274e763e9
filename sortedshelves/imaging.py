"""The images of the words of a kind, told by what may be left of them where a beginning was read."""

from sortedshelves.bounds import MAX_ROWS
from sortedshelves.errors import TooGreat
from sortedshelves.explored import smallest_explored
from sortedshelves.graphs import LETTERS, bits, joined_bits, trimmed
from sortedshelves.readers import ENDED, Reader

# From how many sets of rests on it is asked by which words they end, of how many rests, and how much is done for it.
MANY_SETS = 500
ASKED = 6000
WORK = 2000000


class Images:
    """What is left of images of which a beginning was read.

    A rest is (state, reader's state, text): the text is put down already, and what the reader will put
    down of what the kind has from the state on follows; a state None has nothing that follows.
    Rests have numbers, which are given as they are come to.
    """

    def __init__(self, kind, line):
        self.letters, self.ends = kind[0], kind[2]
        self.rows = trimmed(kind[1], kind[2])
        self.reader = Reader(line)
        self.numbers = {}
        self.rests = []
        self.known = []
        self.number((0, self.reader.start, ""))

    def number(self, rest):
        """The number of the rest."""
        if rest not in self.numbers:
            self.numbers[rest] = len(self.rests)
            self.rests.append(rest)
            self.known.append(None)
        return self.numbers[rest]

    def told(self, number):
        """Whether nothing may be left, and for each letter the numbers of the rests behind it."""
        if self.known[number] is None:
            texts = self.put_down(self.rests[number])
            behind = [[] for _ in range(self.letters)]
            for state, held, text in texts:
                if text:
                    behind[LETTERS.index(text[0])].append(self.number((state, held, text[1:])))
            self.known[number] = (any([text == "" for _, _, text in texts]), behind)
        return self.known[number]

    def put_down(self, rest):
        """The rests that this one comes to when the next letter is put down, or when nothing more is."""
        state, held, text = rest
        if text or state is None:
            return [rest]
        found = []
        waiting = [(state, held)]
        while waiting:
            state, held = waiting.pop()
            if self.ends[state]:
                found.append((None, ENDED, self.reader.rest(held)))
            for letter, target in enumerate(self.rows[state]):
                if target is None:
                    continue
                after, text = self.reader.way(held, letter)
                if after == ENDED:
                    found.append((None, ENDED, text))
                elif text:
                    found.append((target, after, text))
                else:
                    waiting.append((target, after))
        return found


class Sets:
    """Sets of rests, as tuples: what is left of the images that have one beginning.

    Sets whose rests end by the same words are the same. This is asked once there are many sets. If it
    is then known of all words, one set stands for all that are the same; if not, sets that end by
    unlike ones are still unlike, which may be too many.
    """

    def __init__(self, kind, line):
        self.images = Images(kind, line)
        self.picked = {}
        self.signs, self.whole = None, False
        self.firsts = {}

    def goes(self, members):
        """The sets behind this one, for each letter; None where it is empty."""
        told = [self.images.told(number)[1] for number in members]
        found = []
        for letter in range(self.images.letters):
            further = tuple(sorted(set([number for behind in told for number in behind[letter]])))
            found.append(self.pick(further) if further else None)
        return found

    def is_end(self, members):
        """Whether nothing may be left."""
        return any([self.images.told(number)[0] for number in members])

    def pick(self, members):
        """The set that stands for this one."""
        if members not in self.picked:
            if len(self.picked) == MANY_SETS:
                self.signs, self.whole = ending_words(self.images)
            self.picked[members] = members
            if self.signs is not None:
                self.compare(members)
        return self.picked[members]

    def compare(self, members):
        """Let the first set that ends by the same words stand for this one; TooGreat if too many end by unlike ones."""
        sign = 0
        for number in members:
            sign |= self.signs[number]
        if sign not in self.firsts:
            self.firsts[sign] = members
        if len(self.firsts) > MAX_ROWS:
            raise TooGreat()
        if self.whole:
            self.picked[members] = self.firsts[sign]


def smallest_of_images(kind, line):
    """The smallest machine of the images of the words of the kind."""
    sets = Sets(kind, line)

    def goes(members):
        return sets.goes(members)

    def is_end(members):
        return sets.is_end(members)

    return smallest_explored((0,), goes, is_end)


def ending_words(held):
    """For each rest the words by which it may end, a bit for each, and whether these are all that tell rests apart.

    Words by which the same rests end count once. None, False if there are too many rests.
    """
    number = 0
    while number < len(held.rests) and number < ASKED:
        held.told(number)
        number += 1
    if number < len(held.rests):
        return None, False
    told = [held.told(number) for number in range(len(held.rests))]
    before = [[0] * len(told) for _ in range(held.letters)]
    for number, (_, behind) in enumerate(told):
        for letter, targets in enumerate(behind):
            for target in targets:
                before[letter][target] |= 1 << number
    found, whole = backwards_sets(before, bits([number for number, (ended, _) in enumerate(told) if ended]))
    signs = [0] * len(told)
    for place, ended in enumerate(found):
        while ended:
            number = ended.bit_length() - 1
            ended -= 1 << number
            signs[number] |= 1 << place
    return signs, whole


def backwards_sets(before, ends):
    """The sets from which one word leads to the ends, as integers, and whether these are all."""
    sets, waiting = [ends], [ends]
    known = {ends: True}
    left = WORK // len(before[0])
    while waiting and left > 0:
        # Short words and long ones in turn, as either may be those that tell most.
        held = waiting.pop(0 if left % 2 == 0 else -1)
        for ways in before:
            behind = joined_bits(ways, held)
            if behind and behind not in known:
                known[behind] = True
                sets.append(behind)
                waiting.append(behind)
        left -= 1
    return sets, not waiting
