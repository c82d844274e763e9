"""Words told by their images."""

from sortedshelves.readers import ENDED, Reader
from sortedshelves.tables import ALWAYS, NEVER, Numbered, after


class Seen(Numbered):
    """The table of the words whose images by a line are told by a table; nodes are (reader's state, that one's)."""

    def __init__(self, line, table):
        self.reader, self.table = Reader(line), table
        super().__init__(self.decided(self.reader.start, table.start))

    def decided(self, held, place):
        """The node; NEVER or ALWAYS if what follows in the word does not matter."""
        if held == ENDED:
            return ALWAYS if self.table.is_end(place) else NEVER
        return place if place < 0 else (held, place)

    def behind(self, node, letter):
        """The node behind the letter, NEVER or ALWAYS."""
        held, text = self.reader.way(node[0], letter)
        return self.decided(held, after(self.table, node[1], text))

    def node_ends(self, node):
        """Whether the image is told if the word ends here."""
        held, place = node
        return self.table.is_end(after(self.table, place, self.reader.rest(held)))
