"""Papers, which show that a comparison is an order on a kind: how one is made, and what a value must have to be one.

An item is held as a number made of its stands (0 for -1, a state and 1 otherwise) and its rows, ahead
ones weighing more, so that the numbers have the order of the items.
"""

from sortedshelves.checks import is_number
from sortedshelves.pairs import by_signs, side_by_side

# For selfs, turns and chains: the two words that each of the rows reads.
SORTS = (((0, 0),), ((0, 1), (1, 0)), ((0, 1), (1, 2), (0, 2)))


class Items:
    """The items of one sort: what is behind their steps on, and whether they are as they must be where they stop."""

    def __init__(self, kind, comp, sort):
        letters, self.states, self.ends = kind
        self.looks = SORTS[sort]
        self.many = len(self.looks)
        self.signs = side_by_side(letters, self.many)
        self.wide = letters + 1
        self.table, self.verdicts = by_signs(comp), comp[2]
        self.weight = 1
        for _ in self.looks:
            self.weight *= len(self.table)
        # What was worked out: the steps on from stands, and what rows add to the number behind these.
        self.ways = {}
        self.rows = {}

    def number(self, stands, rows):
        """The number of the item with these stands and rows."""
        code = 0
        for stand in stands:
            code = code * (len(self.states) + 1) + stand + 1
        for row in rows:
            code = code * len(self.table) + row
        return code

    def item(self, number):
        """The item with this number."""
        stands, rows = divmod(number, self.weight)
        held = parted(stands, len(self.states) + 1, self.many)
        return (tuple([stand - 1 for stand in held]), tuple(parted(rows, len(self.table), self.many)))

    def behind(self, number):
        """The numbers of the items behind the steps on from this one."""
        stands, rows = divmod(number, self.weight)
        if stands not in self.ways:
            self.ways[stands] = self.steps_on(parted(stands, len(self.states) + 1, self.many))
        places, found = self.ways[stands]
        for at, row in enumerate(parted(rows, len(self.table), self.many)):
            if (places, at, row) not in self.rows:
                self.rows[places, at, row] = self.rows_on(places, at, row)
            found = [one + other for one, other in zip(found, self.rows[places, at, row])]
        return found

    def steps_on(self, stands):
        """The places of the signs of the steps on from the stands, and the numbers of the stands behind them."""
        places, codes = [], []
        for place, signs in enumerate(self.signs[1:], 1):
            code = 0
            for stand, sign in zip(stands, signs):
                target = self.stand_on(stand, sign)
                code = None if code is None or target is None else code * (len(self.states) + 1) + target
            if code is not None:
                places.append(place)
                codes.append(code * self.weight)
        return tuple(places), codes

    def stand_on(self, stand, sign):
        """The stand behind the sign, or None; both as they stand in numbers."""
        if sign == 0:
            return 0 if stand == 0 or self.ends[stand - 1] else None
        target = None if stand == 0 else self.states[stand - 1][sign - 1]
        return None if target is None else target + 1

    def rows_on(self, places, at, row):
        """What the row that is the one number at becomes by the signs at these places, as it weighs in numbers."""
        one, other = self.looks[at]
        weight = 1
        for _ in self.looks[at + 1:]:
            weight *= len(self.table)
        pairs = [self.signs[place][one] * self.wide + self.signs[place][other] for place in places]
        return [self.table[row][pair] * weight for pair in pairs]

    def holds(self, number):
        """Whether the item does not stop, or its verdicts are as they must be."""
        stands, rows = divmod(number, self.weight)
        for stand in parted(stands, len(self.states) + 1, self.many):
            if stand > 0 and not self.ends[stand - 1]:
                return True
        told = [self.verdicts[row] for row in parted(rows, len(self.table), self.many)]
        if self.many == 1:
            return told[0] == 0
        if self.many == 2:
            return told[0] == -told[1]
        return told[0] > 0 or told[1] > 0 or told[2] < 1

    def begin(self):
        """The number of the item that each paper has."""
        return self.number([0] * self.many, [0] * self.many)


def parted(number, wide, many):
    """The number as so many numbers below wide."""
    found = []
    for _ in range(many):
        number, part = divmod(number, wide)
        found.append(part)
    return found[::-1]


def first_paper(kind, comp):
    """The paper with what words come to, and nothing else; it holds if comp is an order on the kind."""
    found = []
    for sort in range(len(SORTS)):
        items = Items(kind, comp, sort)
        found.append(tuple([items.item(number) for number in sorted(all_behind(items))]))
    return tuple(found)


def all_behind(items):
    """The numbers of the first item and of all that steps on lead to from there."""
    order = [items.begin()]
    seen = {order[0]: True}
    at = 0
    while at < len(order):
        behind = items.behind(order[at])
        for number in behind:
            if number not in seen:
                seen[number] = True
                order.append(number)
        at += 1
    return order


def is_paper(kind, comp, value):
    """Whether the value is a paper for the kind and the comparison."""
    if not isinstance(value, tuple) or len(value) != len(SORTS):
        return False
    for sort, part in enumerate(value):
        items = Items(kind, comp, sort)
        if not isinstance(part, tuple) or not all([is_item(item, items) for item in part]):
            return False
        if not is_closed([items.number(stands, rows) for stands, rows in part], items):
            return False
    return True


def is_item(value, items):
    """Whether the value has the form of one of the items."""
    if not isinstance(value, tuple) or len(value) != 2:
        return False
    stands, rows = value
    if not isinstance(stands, tuple) or len(stands) != items.many:
        return False
    if not isinstance(rows, tuple) or len(rows) != items.many:
        return False
    if not all([is_number(stand, -1, len(items.states) - 1) for stand in stands]):
        return False
    return all([is_number(row, 0, len(items.table) - 1) for row in rows])


def is_closed(numbers, items):
    """Whether the numbers are ascending and have the first one and all behind steps on, and all of them hold."""
    if not all([one < other for one, other in zip(numbers, numbers[1:])]):
        return False
    known = {number: True for number in numbers}
    if items.begin() not in known or not all([items.holds(number) for number in numbers]):
        return False
    for number in numbers:
        if not all([behind in known for behind in items.behind(number)]):
            return False
    return True
