"""The words of a kind of which fixed words tell the wanted verdicts: how many there are, and the first one.

What a word comes to at a place is a pair of a key, (state of the kind, rows beside all fixed words
but the first one), and the row beside the first fixed word. As there may be very many of these at a
place, they are held key by key: as a dict of numbers for the rows, or as an integer with a bit for each.
"""

from sortedshelves.graphs import LETTERS, bits, knots, leading, sources, trimmed
from sortedshelves.picking import members


class Beside:
    """A kind with fixed words, each of which tells which verdict is wanted."""

    def __init__(self, kind, fixed):
        self.rows, self.ends, self.fixed = trimmed(kind[1], kind[2]), kind[2], fixed
        self.letters, self.long = kind[0], max([held.long for held in fixed])
        self.start = (0, (0,) * (len(fixed) - 1))
        self.tables, self.targets, self.sources, self.stops = {}, {}, {}, {}

    def rows_on(self, place, letter):
        """For each fixed word the row behind the letter at the place for each row, None if there is no hope."""
        if (place, letter) not in self.tables:
            self.tables[place, letter] = [
                [held.on(place, row, letter + 1) for row in range(len(held.table))] for held in self.fixed
            ]
        return self.tables[place, letter]

    def key_on(self, place, letter, key):
        """The key behind the letter, or None."""
        state, rows = key
        target = self.rows[state][letter]
        if target is None:
            return None
        behind = tuple([held[row] for held, row in zip(self.rows_on(place, letter)[1:], rows)])
        return None if None in behind else (target, behind)

    def ended(self, place, key):
        """The set of rows beside the first fixed word with which a word that ends here is wanted."""
        state, rows = key
        if not self.ends[state] or not all([held.stop(place, row) for held, row in zip(self.fixed[1:], rows)]):
            return 0
        if place not in self.stops:
            first = self.fixed[0]
            self.stops[place] = bits([row for row in range(len(first.table)) if first.stop(place, row)])
        return self.stops[place]

    def moved(self, place, letter, held):
        """The set of rows beside the first fixed word that the letter leads to from the set."""
        if (place, letter, held) not in self.targets:
            table = self.rows_on(place, letter)[0]
            targets = [table[row] for row in members(held)]
            self.targets[place, letter, held] = bits([row for row in targets if row is not None])
        return self.targets[place, letter, held]

    def led_from(self, place, letter, held):
        """The set of rows beside the first fixed word from which the letter leads into the set."""
        if (place, letter, held) not in self.sources:
            table = self.rows_on(place, letter)[0]
            found = [row for row, target in enumerate(table) if target is not None and held >> target & 1]
            self.sources[place, letter, held] = bits(found)
        return self.sources[place, letter, held]

    def onward(self, place, level):
        """What the words of the level come to by one more letter."""
        found = {}
        for key in level:
            for letter in range(self.letters):
                further = self.key_on(place, letter, key)
                held = 0 if further is None else self.moved(place, letter, level[key])
                if held:
                    found[further] = found.get(further, 0) | held
        return found

    def earliest(self):
        """The first word, or None."""
        levels = [{self.start: 1}]
        seen = {}
        while levels[-1]:
            place = min(len(levels) - 1, self.long)
            goals = {key: levels[-1][key] & self.ended(place, key) for key in levels[-1]}
            if any([goals[key] > 0 for key in goals]):
                return self.spelled(levels[:-1], goals)
            level = self.onward(place, levels[-1])
            if place == self.long:
                # Behind the fixed words all goes on as it did where the same was come to before.
                level = {key: level[key] - (level[key] & seen.get(key, 0)) for key in level}
                level = {key: level[key] for key in level if level[key]}
                for key in level:
                    seen[key] = level[key] | seen.get(key, 0)
            levels.append(level)
        return None

    def spelled(self, levels, goals):
        """The first word that leads through the levels to one of the goals."""
        good = [goals]
        for place in range(len(levels) - 1, -1, -1):
            good.append(self.leading_on(min(place, self.long), levels[place], good[-1]))
        good = good[:-1][::-1]
        signs, level = [], {self.start: 1}
        for place, goals in enumerate(good):
            letter, level = self.first_letter(min(place, self.long), level, goals)
            signs.append(LETTERS[letter])
        return "".join(signs)

    def leading_on(self, place, level, goals):
        """What of the level leads to the goals by one more letter."""
        found = {}
        for key in level:
            held = 0
            for letter in range(self.letters):
                further = self.key_on(place, letter, key)
                if further is not None and goals.get(further, 0):
                    held |= self.led_from(place, letter, goals[further])
            if held & level[key]:
                found[key] = held & level[key]
        return found

    def first_letter(self, place, level, goals):
        """The first letter by which the level leads to goals, and those that it leads to."""
        for letter in range(self.letters):
            found = {}
            for key in level:
                further = self.key_on(place, letter, key)
                held = 0 if further is None else self.moved(place, letter, level[key]) & goals.get(further, 0)
                if held:
                    found[further] = found.get(further, 0) | held
            if found:
                return letter, found
        return None, {}

    def how_many(self):
        """How many words there are; None if they are without end."""
        level, number = {self.start: {0: 1}}, 0
        for place in range(self.long):
            for key in level:
                ended = self.ended(place, key)
                number += sum([level[key][row] for row in level[key] if ended >> row & 1])
            level = self.counted_on(place, level)
        behind = self.behind([(key, row) for key in level for row in level[key]])
        if behind is None:
            return None
        return number + sum([level[key][row] * behind[key, row] for key in level for row in level[key]])

    def counted_on(self, place, level):
        """By how many words of one letter more each key and row is come to, told the same of those so far."""
        found = {}
        for key in level:
            for letter in range(self.letters):
                further = self.key_on(place, letter, key)
                if further is None:
                    continue
                counts, table = found.setdefault(further, {}), self.rows_on(place, letter)[0]
                for row, number in level[key].items():
                    target = table[row]
                    if target is not None:
                        counts[target] = counts.get(target, 0) + number
        return found

    def behind(self, nodes):
        """How many words go on from each (key, row) behind the fixed words; None if any are without end."""
        rows, order = self.explored(nodes)
        ends = [self.ended(self.long, key) >> row & 1 for key, row in order]
        every = list(range(len(order)))
        leads = leading(sources(self.letters, rows, every), [at for at in every if ends[at]], len(order))
        rows = [[target if target is not None and leads[target] else None for target in row] for row in rows]
        for held in knots(rows) if rows else []:
            if len(held) > 1 or held[0] in rows[held[0]]:
                return None
            ends[held[0]] += sum([ends[target] for target in rows[held[0]] if target is not None])
        return {node: ends[at] for at, node in enumerate(order)}

    def explored(self, nodes):
        """The numbers of the (key, row) behind each one that words come to from these, and all that they come to."""
        order = list(nodes)
        numbers = {node: at for at, node in enumerate(order)}
        rows = []
        while len(rows) < len(order):
            key, row = order[len(rows)]
            found = []
            for letter in range(self.letters):
                further = self.key_on(self.long, letter, key)
                target = None if further is None else self.rows_on(self.long, letter)[0][row]
                if target is not None and (further, target) not in numbers:
                    numbers[further, target] = len(order)
                    order.append((further, target))
                found.append(None if target is None else numbers[further, target])
            rows.append(found)
        return rows, order
