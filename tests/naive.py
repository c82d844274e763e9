"""Slow and plain ways to what is told of lines, orders, ranks and queries for all words."""

from itertools import product

from sortedshelves.comps import by_length, by_ranks, then, turned
from tests.reference import (
    columns_of, holds, naive_tells, random_comp, random_line, random_machine, random_word, value_of, words_of,
)


def naive_image(line, word):
    """The image, step by step as the document tells."""
    for step in line:
        if step[0] == "cut":
            while value_of(step[1], word) > step[2]:
                word = word[:-1]
        elif step[0] == "stop":
            word = word.split(step[1])[0]
        elif step[0] == "pass":
            turn, signs = 0, []
            for sign in word:
                signs.append(step[2][turn]["abc".index(sign)])
                turn = step[1][turn]["abc".index(sign)]
            word = "".join(signs)
        else:
            word = naive_swap(step[1], word)
    return word


def naive_swap(pairs, word):
    for at in range(len(word)):
        for one, other in pairs:
            for piece, partner in ((one, other), (other, one)):
                if word[at:at + len(piece)] == piece:
                    return word[:at] + partner + word[at + len(piece):]
    return word


def first_of(words, wanted):
    """The first word that is wanted, or None; the words are in order."""
    return next((word for word in words if wanted(word)), None)


def tuples_of(words, many):
    """All tuples of so many of the words, by the longest word and then in Python's order."""
    return sorted(product(words, repeat=many), key=lambda held: (max(map(len, held)), held))


def naive_alike(words, one, other):
    return first_of(words, lambda word: naive_image(one, word) != naive_image(other, word))


def naive_leaves(words, line, target):
    return first_of(words, lambda word: not holds(target, naive_image(line, word)))


def naive_overlong(words, line, limit):
    return first_of(words, lambda word: value_of(limit[0], naive_image(line, word)) > limit[1])


def naive_loses(words, line):
    found = {}
    pairs = []
    for word in words:
        for other in found.setdefault(naive_image(line, word), []):
            pairs += [(word, other), (other, word)]
        found[naive_image(line, word)].append(word)
    return min(pairs, key=lambda held: (max(map(len, held)), held), default=None)


def naive_unsorts(pairs, comp, line):
    for one, other in pairs:
        if naive_tells(comp, one, other) < 1:
            if naive_tells(comp, naive_image(line, one), naive_image(line, other)) == 1:
                return (one, other)
    return None


def naive_images(kind, line, length, source):
    """The images of at most this length, told by the words of the kind up to another length."""
    images = {naive_image(line, word) for word in words_of(kind, source)}
    return sorted([word for word in images if len(word) <= length], key=lambda word: (len(word), word))


def naive_self_fault(words, comp):
    return first_of(words, lambda word: naive_tells(comp, word, word) != 0)


def naive_turn_fault(pairs, comp):
    return first_of(pairs, lambda held: naive_tells(comp, *held) != -naive_tells(comp, *held[::-1]))


def naive_chain_fault(words, comp):
    told = {(one, other): naive_tells(comp, one, other) for one in words for other in words}
    found = [
        (one, two, three) for one in words for two in words if told[one, two] < 1
        for three in words if told[two, three] < 1 and told[one, three] == 1
    ]
    return min(found, key=lambda held: (max(map(len, held)), held), default=None)


def steps_on(kind, comp, stands, rows, looks):
    """The items behind the steps on, as the document tells them."""
    letters, states, ends = kind
    columns, found = columns_of(letters), set()
    options = []
    for stand in stands:
        held = [(-1, ".")] if stand == -1 or ends[stand] else []
        if stand != -1:
            held += [(target, sign) for target, sign in zip(states[stand], "abc") if target is not None]
        options.append(held)
    if all(stand == -1 for stand in stands):
        return found
    for step in product(*options):
        if all(stand == -1 for stand, _ in step):
            continue
        further = []
        for row, (one, other) in zip(rows, looks):
            column = step[one][1] + step[other][1]
            further.append(row if column == ".." else comp[1][row][columns.index(column)])
        found.add((tuple(stand for stand, _ in step), tuple(further)))
    return found


LOOKS = (((0, 0),), ((0, 1), (1, 0)), ((0, 1), (1, 2), (0, 2)))


def stops_well(kind, comp, item):
    """Whether the verdicts of the item are as a paper wants them, if its stands may stop."""
    stands, rows = item
    if not all(stand == -1 or kind[2][stand] for stand in stands):
        return True
    told = [comp[2][row] for row in rows]
    if len(told) == 1:
        return told[0] == 0
    if len(told) == 2:
        return told[0] == -told[1]
    return not (told[0] <= 0 and told[1] <= 0 and told[2] == 1)


def naive_paper(kind, comp):
    """The least paper, or None if it would not hold."""
    found = []
    for looks in LOOKS:
        many = len(looks)
        items, waiting = set(), [((0,) * many, (0,) * many)]
        while waiting:
            item = waiting.pop()
            if item not in items:
                items.add(item)
                waiting += steps_on(kind, comp, *item, looks)
        found.append(tuple(sorted(items)))
    good = all(stops_well(kind, comp, item) for part in found for item in part)
    # What leads to no end shows nothing.
    return tuple(found) if good else None


def naive_paper_holds(kind, comp, value):
    """Whether the value is a paper, by its definition."""
    if not isinstance(value, tuple) or len(value) != 3:
        return False
    for looks, part in zip(LOOKS, value):
        many = len(looks)
        if not isinstance(part, tuple):
            return False
        for item in part:
            if not isinstance(item, tuple) or len(item) != 2:
                return False
            for held, bottom, top in zip(item, (-1, 0), (len(kind[1]), len(comp[1]))):
                if not isinstance(held, tuple) or len(held) != many:
                    return False
                if any(isinstance(k, bool) or not isinstance(k, int) or not bottom <= k < top for k in held):
                    return False
        if list(part) != sorted(set(part)) or ((0,) * many, (0,) * many) not in part:
            return False
        held = set(part)
        if any(not steps_on(kind, comp, *item, looks) <= held for item in part):
            return False
        if not all(stops_well(kind, comp, item) for item in part):
            return False
    return True


def naive_unlike(pairs, one, other):
    return first_of(pairs, lambda held: naive_tells(one, *held) != naive_tells(other, *held))


def naive_tie(pairs, comp):
    return first_of(pairs, lambda held: held[0] != held[1] and naive_tells(comp, *held) == 0)


def graph(letters, start, step, is_end):
    """The machine, of any number of states, of what step leads to from the start; None where it leads nowhere."""
    numbers, nodes, rows = {start: 0}, [start], []
    while len(rows) < len(nodes):
        row = []
        for letter in "abc"[:letters]:
            node = step(nodes[len(rows)], letter)
            if node is not None and node not in numbers:
                numbers[node] = len(nodes)
                nodes.append(node)
            row.append(None if node is None else numbers[node])
        rows.append(tuple(row))
    return (letters, tuple(rows), tuple(is_end(node) for node in nodes))


def beside_graph(kind, comp, fixed):
    """The machine of the words of the kind with the wanted verdicts beside fixed words.

    fixed has (word, whether it is the first one of both, verdict) for each.
    """
    letters, states, ends = kind
    columns = columns_of(letters)
    long = max(len(word) for word, _, _ in fixed)

    def on(row, word, place, sign, first):
        own = word[place:place + 1] or "."
        column = own + sign if first else sign + own
        return row if column == ".." else comp[1][row][columns.index(column)]

    def step(node, letter):
        place, state, *rows = node
        target = states[state]["abc".index(letter)]
        if target is None:
            return None
        further = [on(row, word, place, letter, first) for row, (word, first, _) in zip(rows, fixed)]
        return (min(place + 1, long), target, *further)

    def is_end(node):
        place, state, *rows = node
        told = []
        for row, (word, first, verdict) in zip(rows, fixed):
            for at in range(place, len(word)):
                row = on(row, word, at, ".", first)
            told.append(comp[2][row] == verdict)
        return ends[state] and all(told)

    return graph(letters, (0, 0) + (0,) * len(fixed), step, is_end)


def lowest_graph(kind, comp, picked):
    """The machine of the words of the kind that picked has and that no word, of both, is below.

    picked is a machine of any number of states.
    """
    letters, states, ends = kind
    columns = columns_of(letters)

    def signs_on(stand):
        """What a word that may be below goes on to: (stand, sign)."""
        if stand == "ended":
            return [("ended", ".")]
        one, other = stand
        found = [("ended", ".")] if ends[one] and picked[2][other] else []
        for at, letter in enumerate("abc"[:letters]):
            if states[one][at] is not None and picked[1][other][at] is not None:
                found.append(((states[one][at], picked[1][other][at]), letter))
        return found

    def on(held, sign):
        found = set()
        for stand, row in held:
            for further, own in signs_on(stand):
                if own + sign != "..":
                    found.add((further, comp[1][row][columns.index(own + sign)]))
        return found

    def step(node, letter):
        state, other, held = node
        at = "abc".index(letter)
        if states[state][at] is None or picked[1][other][at] is None:
            return None
        return (states[state][at], picked[1][other][at], frozenset(on(held, letter)))

    def is_end(node):
        state, other, held = node
        if not ends[state] or not picked[2][other]:
            return False
        seen, waiting = set(), list(held)
        while waiting:
            stand, row = waiting.pop()
            if (stand, row) in seen:
                continue
            seen.add((stand, row))
            stops = stand == "ended" or ends[stand[0]] and picked[2][stand[1]]
            if stops and comp[2][row] == -1:
                return False
            waiting += on({(stand, row)}, ".")
        return True

    return graph(letters, (0, 0, frozenset({((0, 0), 0)})), step, is_end)


def first_of_graph(machine):
    """The first word of a machine of any number of states, or None."""
    _, rows, ends = machine
    words, edge, seen = {0: ""}, [0], {0}
    while edge:
        for state in edge:
            if ends[state]:
                return words[state]
        further = []
        for state in edge:
            for letter, target in zip("abc", rows[state]):
                if target is not None and target not in seen:
                    seen.add(target)
                    words[target] = words[state] + letter
                    further.append(target)
        edge = further
    return None


def all_words(letters):
    return (letters, ((0,) * letters,), (True,))


def words_out(machine, words):
    """The machine, of any number of states, of its words without some."""
    letters, rows, ends = machine

    def step(node, letter):
        state, word = node
        target = rows[state]["abc".index(letter)]
        if target is None:
            return None
        further = None if word is None else word + letter
        return (target, further if any(held.startswith(further or "-") for held in words) else None)

    return graph(letters, (0, ""), step, lambda node: ends[node[0]] and node[1] not in words)


def naive_leaders(kind, comp, many):
    found = []
    while len(found) < many:
        word = first_of_graph(lowest_graph(kind, comp, words_out(all_words(kind[0]), found)))
        if word is None:
            break
        found.append(word)
    return tuple(found)


def naive_just_above(kind, comp, word):
    above = beside_graph(all_words(kind[0]), comp, [(word, True, -1)])
    return first_of_graph(lowest_graph(kind, comp, above))


def naive_answers(comp, query, word):
    """Whether the word answers the query, as the document tells."""
    name, value = query[0], query[1:]
    if name in ("below", "above", "like"):
        return naive_tells(comp, word, value[0]) == {"below": -1, "above": 1, "like": 0}[name]
    if name == "is":
        return word == value[0]
    if name == "has":
        return value[0] in word
    if name == "of":
        return holds(value[0], word)
    if name == "seen":
        return naive_answers(comp, value[1], naive_image(value[0], word))
    if name == "not":
        return not naive_answers(comp, value[0], word)
    told = [naive_answers(comp, query, word) for query in value[0]]
    return all(told) if name == "all" else any(told)


def random_query(chance, letters, depth):
    """A query of at most this depth."""
    names = ["below", "above", "like", "is", "has", "of"]
    if depth > 1:
        names += ["seen", "not", "all", "some"] * 2
    name = chance.choice(names)
    if name == "has":
        return (name, random_word(chance, letters, chance.randint(1, 4)))
    if name == "of":
        return (name, random_machine(chance, chance.randint(1, 6), letters, chance.random() / 3, chance.random()))
    if name == "seen":
        return (name, random_line(chance, letters), random_query(chance, letters, depth - 1))
    if name == "not":
        return (name, random_query(chance, letters, depth - 1))
    if name in ("all", "some"):
        return (name, tuple(random_query(chance, letters, depth - 1) for _ in range(chance.randint(0, 4))))
    return (name, random_word(chance, letters, chance.choice((0, 1, 2, 3, chance.randint(0, 20)))))


def some_comp(chance, letters, most=5):
    """A comparison: any one, one by ranks and lengths, or such a one with few changes."""
    way = chance.randrange(6)
    if way == 0:
        return random_comp(chance, letters, chance.randint(1, most))
    plain = [by_ranks(letters, tuple(chance.randint(0, 2) for _ in range(letters))), by_length(letters)]
    comp = chance.choice(plain)
    if chance.random() < 0.3:
        comp = turned(comp)
    if chance.random() < 0.5:
        comp = then(comp, chance.choice(plain))
    if way < 3:
        return comp
    rows, verdicts = [list(row) for row in comp[1]], list(comp[2])
    for _ in range(chance.randint(1, 2)):
        if chance.random() < 0.6:
            chance.choice(rows)[chance.randrange(len(rows[0]))] = chance.randrange(len(rows))
        else:
            verdicts[chance.randrange(len(verdicts))] = chance.choice((-1, 0, 1))
    return (letters, tuple(map(tuple, rows)), tuple(verdicts))


def some_kind(chance, letters, states=6):
    return random_machine(
        chance, chance.randint(1, chance.choice((min(3, states), states))), letters, chance.random() / 2,
        chance.choice((0.3, 0.5, 1)),
    )


def longest(found):
    """How many letters the longest word of a word or a tuple of words has."""
    return len(found) if isinstance(found, str) else max(map(len, found))


def sums(letters, wide, weights):
    """The comparison by the sums of the letters' weights, without what is a multiple of wide: an order."""
    rows, verdicts, steps = [], [], list(weights[:letters]) + [0]
    for one in range(wide):
        for other in range(wide):
            targets = [(one + x) % wide * wide + (other + y) % wide for x in steps for y in steps]
            rows.append(tuple(targets[:-1]))
            verdicts.append((one > other) - (one < other))
    return (letters, tuple(rows), tuple(verdicts))


def row_ring(rows, verdict_at):
    """A comparison of one letter: equal letters lead round a ring of rows, and one row alone tells 1."""
    return (1, tuple(((row + 1) % rows, row, row) for row in range(rows)),
            tuple(1 if row == verdict_at else 0 for row in range(rows)))


def first_tuple(kind, comps, looks, many, wanted):
    """The first tuple of so many words of the kind that is wanted, of whatever length, or None.

    For each comparison looks has which two of the words it reads; wanted is told the verdicts, and
    whether all words are the same. For each node the first words that come to it are kept: whatever
    follows, they stay ahead of the other ones of as many letters.
    """
    letters, states, ends = kind
    columns = columns_of(letters)

    def options(stand):
        held = [(-1, "")] if stand == -1 or ends[stand] else []
        return held if stand == -1 else held + [(t, sign) for t, sign in zip(states[stand], "abc") if t is not None]

    def behind(node):
        stands, rows, alike = node
        for step in product(*[options(stand) for stand in stands]):
            signs = [sign for _, sign in step]
            if any(signs):
                pairs = [(signs[one] or ".") + (signs[other] or ".") for one, other in looks]
                further = [row if pair == ".." else comp[1][row][columns.index(pair)]
                           for comp, row, pair in zip(comps, rows, pairs)]
                yield (tuple(t for t, _ in step), tuple(further), alike and len(set(signs)) == 1), signs

    level = {((0,) * many, (0,) * len(comps), True): ("",) * many}
    seen = set(level)
    while level:
        good = [words for (stands, rows, alike), words in level.items()
                if all(stand == -1 or ends[stand] for stand in stands)
                and wanted([comp[2][row] for comp, row in zip(comps, rows)], alike)]
        if good:
            return min(good)
        further = {}
        for node, words in level.items():
            for after, signs in behind(node):
                longer = tuple(word + sign for word, sign in zip(words, signs))
                if after not in seen and (after not in further or longer < further[after]):
                    further[after] = longer
        seen |= set(further)
        level = further
    return None
