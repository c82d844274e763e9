"""Lines for all words of a kind: which images they have, and what is lost, changed or broken by a line."""

from sortedshelves.explored import smallest_explored
from sortedshelves.forms import worth
from sortedshelves.graphs import LETTERS, first_word, trimmed
from sortedshelves.imaging import smallest_of_images
from sortedshelves.pairs import first_together, side_by_side
from sortedshelves.readers import ENDED, Reader
from sortedshelves.seen import Seen
from sortedshelves.sides import Losing, Unsorting, lead
from sortedshelves.tables import ALWAYS, NEVER, Table
from sortedshelves.worths import first_greatest


def alike(kind, one, other):
    """The first word of the kind that has unlike images by both lines, or None."""
    rows, ends = trimmed(kind[1], kind[2]), kind[2]
    left, right = Reader(one), Reader(other)
    known = {}

    def goes(node):
        state, beside = node
        found = []
        for letter, target in enumerate(rows[state]):
            if target is None:
                found.append(None)
                continue
            if (beside, letter) not in known:
                known[beside, letter] = beside_on(left, right, beside, letter)
            further = known[beside, letter]
            found.append(None if further is None else (target, further))
        return found

    def wanted(node):
        state, beside = node
        return ends[state] and (beside == () or unlike_ends(left, right, beside))

    return None if one == other else first_word((0, (left.start, right.start, "", "")), goes, wanted)


def beside_on(left, right, beside, letter):
    """What two readers have come to behind one more letter.

    It is their states with the texts that each has put down ahead of the other one; () if the images
    are unlike, and None if they are the same, whatever follows.
    """
    if beside == ():
        return ()
    one, first = left.way(beside[0], letter)
    other, second = right.way(beside[1], letter)
    ahead = lead(beside[2] + first, beside[3] + second, one == ENDED, other == ENDED)
    if ahead is None:
        return ()
    return None if one == ENDED and other == ENDED else (one, other, ahead[0], ahead[1])


def unlike_ends(left, right, beside):
    """Whether the images are unlike if the word ends here."""
    one, other, first, second = beside
    return first + left.rest(one) != second + right.rest(other)


def again(kind, line):
    """The first word of the kind whose image has another image by the same line, or None."""
    return alike(kind, line, line + line)


def leaves(kind, line, target):
    """The first word of the kind whose image is not of the target, or None."""
    rows, ends = trimmed(kind[1], kind[2]), kind[2]
    seen = Seen(line, Table(target[1], target[2]))

    def goes(node):
        state, held = node
        found = []
        for letter, further in enumerate(rows[state]):
            behind = seen.step(held, letter)
            found.append(None if further is None or behind == ALWAYS else (further, behind))
        return found

    def wanted(node):
        state, held = node
        return ends[state] and not seen.is_end(held)

    return first_word((0, seen.start), goes, wanted)


def overlong(kind, line, limit):
    """The first word of the kind whose image does not keep the limit, or None."""
    rows, ends = trimmed(kind[1], kind[2]), kind[2]
    reader = Reader(line)
    # The greatest counts of shorter words: a word that counts no more than one of these is not needed.
    best = {}
    levels = [{(0, reader.start, 0): None}]
    while levels[-1]:
        for node in levels[-1]:
            state, held, number = node
            if ends[state] and number + worth(limit[0], reader.rest(held)) > limit[1]:
                return spelled_back(levels, node)
        for state, held, number in levels[-1]:
            best[state, held] = max(number, best.get((state, held), 0))
        further = {}
        for node in levels[-1]:
            for letter, target in enumerate(rows[node[0]]):
                after = None if target is None else counted_on(reader, limit, node, letter, target)
                if after is not None and after[2] > best.get((after[0], after[1]), -1) and after not in further:
                    further[after] = (node, letter)
        levels.append(further)
    return None


def spelled_back(levels, node):
    """The word that led to this node on the last level; each level has the node ahead and the letter."""
    signs = []
    for level in levels[:0:-1]:
        node, letter = level[node]
        signs.append(LETTERS[letter])
    return "".join(signs[::-1])


def counted_on(reader, limit, node, letter, target):
    """What a word comes to by one more letter: the state of the kind, the reader's, the count; None if it is kept."""
    unit, most = limit
    held, text = reader.way(node[1], letter)
    number = node[2] + worth(unit, text)
    if number > most:
        return (target, ENDED, most + 1)
    return None if held == ENDED else (target, held, number)


def loses(kind, line):
    """The first pair of unlike words of the kind with the same image, or None."""
    return first_found(kind[0], Losing(kind, line))


def unsorts(kind, comp, line):
    """The first pair of words of the kind that comp tells -1 or 0 of, but 1 of their images, or None."""
    return first_found(kind[0], Unsorting(kind, comp, line))


def first_found(letters, search):
    """The first pair of words that the search finds, or None."""

    def ways(node):
        return search.further(node)

    def wanted(node):
        return search.wanted(node)

    return first_together(side_by_side(letters, 2), 0, ways, wanted)


def images(kind, line):
    """The smallest machine of the images of the words of the kind."""
    return smallest_of_images(kind, line)


def sources(target, line):
    """The smallest machine of all words whose image is of the target."""
    letters = target[0]
    seen = Seen(line, Table(target[1], target[2]))

    def goes(state):
        behind = [seen.step(state, letter) for letter in range(letters)]
        return [None if further == NEVER else further for further in behind]

    def is_end(state):
        return seen.is_end(state)

    return smallest_explored(seen.start, goes, is_end)


def greatest_image(kind, line, form):
    """The greatest worth of the images of the kind with the first word that has such an image, or why there is none."""
    return first_greatest(kind, line, form)
