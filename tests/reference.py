"""Slow and plain ways to the same results, and machines for the tests."""

import random
import time
from fractions import Fraction
from itertools import product

SECONDS = 30


def words_up_to(letters, length):
    """All words of so many letters up to this length, in order."""
    return ["".join(signs) for n in range(length + 1) for signs in product("abc"[:letters], repeat=n)]


def holds(machine, word):
    """Whether the word is of the machine, by following it."""
    _, rows, ends = machine
    place = 0
    for sign in word:
        place = rows[place]["abc".index(sign)]
        if place is None:
            return False
    return ends[place]


def words_of(machine, length):
    return [word for word in words_up_to(machine[0], length) if holds(machine, word)]


def smallest_of_words(letters, has):
    """The smallest machine by the rule of Nerode; has tells of each word whether it is wanted.

    Only for words whose smallest machine has at most 5 states.
    """
    tails = words_up_to(letters, 5)

    def ways_on(word):
        return tuple(has(word + tail) for tail in tails)

    numbers, heads, rows = {ways_on(""): 0}, [""], []
    while len(rows) < len(heads):
        row = []
        for letter in "abc"[:letters]:
            word = heads[len(rows)] + letter
            signs = ways_on(word)
            if not any(signs):
                row.append(None)
                continue
            if signs not in numbers:
                numbers[signs] = len(heads)
                heads.append(word)
            row.append(numbers[signs])
        rows.append(tuple(row))
    return (letters, tuple(rows), tuple(has(word) for word in heads))


def naive_smallest(machine):
    """The smallest machine by parting states step by step; for any number of states."""
    letters, rows, ends = machine
    states = range(len(rows))
    leads = set(s for s in states if ends[s])
    while True:
        more = leads | set(s for s in states if any(t in leads for t in rows[s]))
        if more == leads:
            break
        leads = more
    if 0 not in leads:
        return (letters, ((None,) * letters,), (False,))
    kind = {s: (int(ends[s]),) if s in leads else None for s in states}
    while True:
        signs = {s: (kind[s], tuple(None if t is None else kind[t] for t in rows[s])) for s in leads}
        known = {}
        for s in sorted(leads):
            known.setdefault(signs[s], len(known))
        fresh = {s: known[signs[s]] if s in leads else None for s in states}
        if len(set(fresh.values())) == len(set(kind.values())):
            break
        kind = fresh
    numbers, picked, done = {kind[0]: 0}, [0], []
    while len(done) < len(picked):
        row = []
        for target in rows[picked[len(done)]]:
            if target is None or kind[target] is None:
                row.append(None)
                continue
            if kind[target] not in numbers:
                numbers[kind[target]] = len(picked)
                picked.append(target)
            row.append(numbers[kind[target]])
        done.append(tuple(row))
    return (letters, tuple(done), tuple(ends[s] for s in picked))


def naive_rule(numbers, most):
    """The shortest rule of at most so many items by which the numbers go on, as fractions."""
    for k in range(most + 1):
        rows = [[Fraction(numbers[n - i]) for i in range(1, k + 1)] + [Fraction(numbers[n])]
                for n in range(k, len(numbers))]
        found = solved(rows, k)
        if found is not None:
            return found
    return None


def solved(rows, k):
    """The one solution of the equations, or None if there is none."""
    rows = [list(row) for row in rows]
    done = 0
    for column in range(k):
        pivot = next((r for r in range(done, len(rows)) if rows[r][column] != 0), None)
        if pivot is None:
            raise AssertionError("more than one solution")
        rows[done], rows[pivot] = rows[pivot], rows[done]
        rows[done] = [value / rows[done][column] for value in rows[done]]
        for r in range(len(rows)):
            if r != done and rows[r][column] != 0:
                factor = rows[r][column]
                rows[r] = [value - factor * other for value, other in zip(rows[r], rows[done])]
        done += 1
    if any(row[k] != 0 for row in rows[done:]):
        return None
    return tuple(rows[r][k] for r in range(k))


def random_machine(chance, states, letters, empty=0.3, end=0.5):
    rows = tuple(
        tuple(None if chance.random() < empty else chance.randrange(states) for _ in range(letters))
        for _ in range(states)
    )
    return (letters, rows, tuple(chance.random() < end for _ in range(states)))


def random_machines(seed, many, states=5):
    chance = random.Random(seed)
    return [
        random_machine(chance, chance.randint(1, states), chance.randint(1, 3), chance.random() / 2, chance.random())
        for _ in range(many)
    ]


def random_pairs(seed, many, states=4):
    chance = random.Random(seed)
    found = []
    for _ in range(many):
        letters = chance.randint(1, 3)
        found.append(tuple(
            random_machine(chance, chance.randint(1, states), letters, chance.random() / 2, chance.random())
            for _ in range(2)
        ))
    return found


def ring(states, ends, letters=1):
    """Each letter goes one state on, from the last one to the first."""
    rows = tuple((((state + 1) % states),) * letters for state in range(states))
    return (letters, rows, tuple(state in ends for state in range(states)))


def tailed_ring(tail, states, ends):
    """A ring of one letter behind a tail."""
    many = tail + states
    rows = tuple((state + 1 if state + 1 < many else tail,) for state in range(many))
    return (1, rows, tuple(state in ends for state in range(many)))


def wheel(states, moves, ends):
    """A state s goes by a letter with (times, more) to times * s + more, round about."""
    rows = tuple(tuple((times * s + more) % states for times, more in moves) for s in range(states))
    return (len(moves), rows, tuple(s in ends for s in range(states)))


def chain(states, letters=1, ends=None):
    """Each letter goes one state on; the last one has no letter."""
    rows = tuple(((s + 1,) if s + 1 < states else (None,)) * letters for s in range(states))
    return (letters, rows, tuple(s in ends if ends else s == states - 1 for s in range(states)))


def blown_up(machine, states, seed):
    """A machine of so many states with the same words; each state has several twins, led to by chance."""
    letters, rows, ends = machine
    chance = random.Random(seed)
    twins = [[s for s in range(states) if s % len(rows) == state] for state in range(len(rows))]
    blown = tuple(
        tuple(None if t is None else chance.choice(twins[t]) for t in rows[s % len(rows)]) for s in range(states)
    )
    return (letters, blown, tuple(ends[s % len(rows)] for s in range(states)))


def shuffled(machine, seed):
    """The machine with its states, but for state 0, in another order."""
    letters, rows, ends = machine
    order = list(range(1, len(rows)))
    random.Random(seed).shuffle(order)
    order = [0] + order
    place = {state: at for at, state in enumerate(order)}
    turned = tuple(tuple(None if t is None else place[t] for t in rows[state]) for state in order)
    return (letters, turned, tuple(ends[state] for state in order))


def doubled(machine):
    """The machine with a twin of each state, the items leading to twins in turn."""
    letters, rows, ends = machine
    many = len(rows)
    first = tuple(tuple(None if t is None else t + many for t in row) for row in rows)
    return (letters, first + rows, ends + ends)


def timed(call, *values):
    """What the call returns, or its error's class; it must not take longer than some seconds."""
    start = time.perf_counter()
    try:
        found = call(*values)
    except Exception as error:
        found = error.__class__
    taken = time.perf_counter() - start
    if taken > SECONDS:
        raise AssertionError(f"{call.__name__} took {taken} seconds")
    return found


def value_of(form, word):
    """The worth of the word, letter by letter."""
    number = 0
    for sign in word:
        number += form["abc".index(sign)]
    return number


def reach(machine):
    """For each state the states that words lead to from it."""
    found = [{state} for state in range(len(machine[1]))]
    while True:
        before = [set(held) for held in found]
        for state, row in enumerate(machine[1]):
            for target in row:
                if target is not None:
                    found[state] |= found[target]
        if found == before:
            return found


def simple_rings(machine):
    """All rings that go through no state twice, as (first state, word); only for few states."""
    found = []

    def walk(path, word):
        for sign, target in zip("abc", machine[1][path[-1]]):
            if target == path[0]:
                found.append((path[0], word + sign))
            elif target is not None and target not in path:
                walk(path + [target], word + sign)

    for state in range(len(machine[1])):
        walk([state], "")
    return found


def naive_greatest(machine, form):
    """What greatest tells, but ("ring",) alone for a ring; only for few states."""
    reached = reach(machine)
    for state, word in simple_rings(machine):
        if value_of(form, word) > 0 and state in reached[0] and any(machine[2][end] for end in reached[state]):
            return ("ring",)
    # A word that goes round a ring can be made shorter, and is not worth less then.
    if machine[0] ** len(machine[1]) < 1000:
        words = words_of(machine, len(machine[1]) - 1)
        if not words:
            return ("none",)
        number = max(value_of(form, word) for word in words)
        return ("most", number, next(word for word in words if value_of(form, word) == number))
    numbers, level = [], {0: 0}
    for _ in machine[1]:
        numbers += [number for state, number in level.items() if machine[2][state]]
        further = {}
        for state, number in level.items():
            for target, part in zip(machine[1][state], form):
                if target is not None:
                    further[target] = max(further.get(target, number + part), number + part)
        level = further
    return ("most", max(numbers), naive_above(machine, form, max(numbers) - 1)) if numbers else ("none",)


def naive_first(machine, start, step, wanted):
    """The first word of the machine that is wanted, or None.

    What is kept of a word is start for the empty one, step(kept, letter) with a letter more (None: no word
    is wanted that begins so). wanted(kept) tells whether a word of the machine is.
    """
    _, rows, ends = machine
    seen, edge = {(0, start)}, [("", 0, start)]
    while edge:
        for word, state, kept in edge:
            if ends[state] and wanted(kept):
                return word
        further = []
        for word, state, kept in edge:
            for letter, target in enumerate(rows[state]):
                after = None if target is None else step(kept, letter)
                if after is not None and (target, after) not in seen:
                    seen.add((target, after))
                    further.append((word + "abc"[letter], target, after))
        edge = further
    return None


def naive_above(machine, form, bound):
    """The first word of the machine that is worth more than the bound, or None."""
    # A beginning worth less than this could leave out a ring; one worth more would be enough already.
    widest = abs(bound) + max(map(abs, form)) * (len(machine[1]) + 1)

    def step(number, letter):
        return number + form[letter] if abs(number + form[letter]) <= widest else None

    return naive_first(machine, 0, step, lambda number: number > bound)


def naive_breach(machine, one, other):
    """The first word that keeps one and not other."""

    def step(counts, letter):
        first = counts[0] + one[0][letter]
        return (first, min(counts[1] + other[0][letter], other[1] + 1)) if first <= one[1] else None

    return naive_first(machine, (0, 0), step, lambda counts: counts[1] > other[1])


def keeping(machine, limit):
    """The machine, of any number of states, of the words of the machine that keep the limit."""
    letters, rows, ends = machine
    unit, most = limit
    numbers, nodes, done = {(0, 0): 0}, [(0, 0)], []
    while len(done) < len(nodes):
        state, number = nodes[len(done)]
        row = []
        for target, part in zip(rows[state], unit):
            node = (target, number + part)
            if target is None or number + part > most:
                row.append(None)
                continue
            if node not in numbers:
                numbers[node] = len(nodes)
                nodes.append(node)
            row.append(numbers[node])
        done.append(tuple(row))
    return (letters, tuple(done), tuple(ends[state] for state, _ in nodes))


def knotted_machine(chance, letters, groups):
    """A machine of groups of states; few letters lead from a group to a later one, and none leads back."""
    group_of = [group for group in range(groups) for _ in range(chance.randint(1, 3))]
    states = range(len(group_of))
    rows = []
    for state in states:
        inside = [other for other in states if group_of[other] == group_of[state]]
        later = [other for other in states if group_of[other] > group_of[state]]
        row = []
        for _ in range(letters):
            held = chance.choice((inside, inside, later, [None]))
            row.append(chance.choice(held or [None]))
        rows.append(tuple(row))
    return (letters, tuple(rows), tuple(chance.random() < (0.2 if later else 0.5) for _ in states))


def random_form(chance, letters):
    most = chance.choice((1, 2, 5, 99))
    return tuple(chance.randint(-most, chance.choice((0, 1, most))) for _ in range(letters))


def random_unit(chance, letters):
    return tuple(chance.choice((0, 0, 1, 2, chance.randint(0, 9))) for _ in range(letters))


def changed(chance, value):
    """The value with some part replaced, left out, put in, doubled, exchanged, or of another kind."""
    plain = (
        None, True, False, 0, 1, -1, 2, 3, 10 ** 59, -10 ** 59, "", "a", "b", "abc", "d", "cut", (), (0,), [], {},
        {0: 1},
    )
    if not isinstance(value, tuple) or not value or chance.random() < 0.1:
        if isinstance(value, tuple) and chance.random() < 0.5:
            return chance.choice((list(value), dict(enumerate(value)), value + value, (value,)))
        return chance.choice(plain)
    at = chance.randrange(len(value))
    way = chance.randrange(9)
    if way == 0:
        return value[:at] + value[at + 1:]
    if way == 1:
        return value[:at] + (chance.choice(plain),) + value[at:]
    if way == 2:
        return value[:at] + (value[at],) + value[at:]
    if way == 3:
        other = chance.randrange(len(value))
        parts = list(value)
        parts[at], parts[other] = parts[other], parts[at]
        return tuple(parts)
    return value[:at] + (changed(chance, value[at]),) + value[at + 1:]


def random_word(chance, letters, length):
    return "".join(chance.choice("abc"[:letters]) for _ in range(length))


def random_step(chance, letters):
    name = chance.choice(("cut", "stop", "pass", "swap"))
    if name == "cut":
        return ("cut", random_unit(chance, letters), chance.choice((0, 1, 2, 5, 30, chance.randint(0, 30))))
    if name == "stop":
        return ("stop", chance.choice("abc"[:letters]))
    if name == "pass":
        turns = chance.randint(1, 4)
        rows = tuple(tuple(chance.randrange(turns) for _ in range(letters)) for _ in range(turns))
        return ("pass", rows, tuple(tuple(random_word(chance, letters, letters)) for _ in range(turns)))
    if letters == 1:
        return ("stop", "a")
    pieces = ["".join(signs) for n in (1, 2) for signs in product("abc"[:letters], repeat=n)]
    chance.shuffle(pieces)
    short, long = [piece for piece in pieces if len(piece) == 1], [piece for piece in pieces if len(piece) == 2]
    pairs = []
    for _ in range(chance.randint(1, 4)):
        held = chance.choice((short, long))
        if len(held) >= 2:
            pairs.append((held.pop(), held.pop()))
    return ("swap", tuple(pairs or [("a", "b")]))


def random_line(chance, letters):
    return tuple(random_step(chance, letters) for _ in range(chance.randint(0, 3)))


def columns_of(letters):
    """The columns as the document writes them."""
    signs = "abc"[:letters] + "."
    return [one + other for one in signs for other in signs if one + other != ".."]


def random_comp(chance, letters, rows):
    wide = len(columns_of(letters))
    return (letters, tuple(tuple(chance.randrange(rows) for _ in range(wide)) for _ in range(rows)),
            tuple(chance.choice((-1, 0, 1)) for _ in range(rows)))


def naive_tells(comp, one, other):
    """The verdict of two words, by the texts of the columns."""
    letters, rows, verdicts = comp
    columns, row = columns_of(letters), 0
    while one or other:
        row = rows[row][columns.index((one[:1] or ".") + (other[:1] or "."))]
        one, other = one[1:], other[1:]
    return verdicts[row]
