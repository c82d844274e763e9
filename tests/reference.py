"""Slow and plain ways to the same results, and machines for the tests."""

import random
import time
from fractions import Fraction
from itertools import product

SECONDS = 30


def words_up_to(letters, length):
    """All words of so many letters up to this length, in order."""
    return ["".join(signs) for n in range(length + 1) for signs in product("abc"[:letters], repeat=n)]


def holds(machine, word):
    """Whether the word is of the machine, by following it."""
    _, rows, ends = machine
    place = 0
    for sign in word:
        place = rows[place]["abc".index(sign)]
        if place is None:
            return False
    return ends[place]


def words_of(machine, length):
    return [word for word in words_up_to(machine[0], length) if holds(machine, word)]


def smallest_of_words(letters, has):
    """The smallest machine by the rule of Nerode; has tells of each word whether it is wanted.

    Only for words whose smallest machine has at most 5 states.
    """
    tails = words_up_to(letters, 5)

    def ways_on(word):
        return tuple(has(word + tail) for tail in tails)

    numbers, heads, rows = {ways_on(""): 0}, [""], []
    while len(rows) < len(heads):
        row = []
        for letter in "abc"[:letters]:
            word = heads[len(rows)] + letter
            signs = ways_on(word)
            if not any(signs):
                row.append(None)
                continue
            if signs not in numbers:
                numbers[signs] = len(heads)
                heads.append(word)
            row.append(numbers[signs])
        rows.append(tuple(row))
    return (letters, tuple(rows), tuple(has(word) for word in heads))


def naive_smallest(machine):
    """The smallest machine by parting states step by step; for any number of states."""
    letters, rows, ends = machine
    states = range(len(rows))
    leads = set(s for s in states if ends[s])
    while True:
        more = leads | set(s for s in states if any(t in leads for t in rows[s]))
        if more == leads:
            break
        leads = more
    if 0 not in leads:
        return (letters, ((None,) * letters,), (False,))
    kind = {s: (int(ends[s]),) if s in leads else None for s in states}
    while True:
        signs = {s: (kind[s], tuple(None if t is None else kind[t] for t in rows[s])) for s in leads}
        known = {}
        for s in sorted(leads):
            known.setdefault(signs[s], len(known))
        fresh = {s: known[signs[s]] if s in leads else None for s in states}
        if len(set(fresh.values())) == len(set(kind.values())):
            break
        kind = fresh
    numbers, picked, done = {kind[0]: 0}, [0], []
    while len(done) < len(picked):
        row = []
        for target in rows[picked[len(done)]]:
            if target is None or kind[target] is None:
                row.append(None)
                continue
            if kind[target] not in numbers:
                numbers[kind[target]] = len(picked)
                picked.append(target)
            row.append(numbers[kind[target]])
        done.append(tuple(row))
    return (letters, tuple(done), tuple(ends[s] for s in picked))


def naive_rule(numbers, most):
    """The shortest rule of at most so many items by which the numbers go on, as fractions."""
    for k in range(most + 1):
        rows = [[Fraction(numbers[n - i]) for i in range(1, k + 1)] + [Fraction(numbers[n])]
                for n in range(k, len(numbers))]
        found = solved(rows, k)
        if found is not None:
            return found
    return None


def solved(rows, k):
    """The one solution of the equations, or None if there is none."""
    rows = [list(row) for row in rows]
    done = 0
    for column in range(k):
        pivot = next((r for r in range(done, len(rows)) if rows[r][column] != 0), None)
        if pivot is None:
            raise AssertionError("more than one solution")
        rows[done], rows[pivot] = rows[pivot], rows[done]
        rows[done] = [value / rows[done][column] for value in rows[done]]
        for r in range(len(rows)):
            if r != done and rows[r][column] != 0:
                factor = rows[r][column]
                rows[r] = [value - factor * other for value, other in zip(rows[r], rows[done])]
        done += 1
    if any(row[k] != 0 for row in rows[done:]):
        return None
    return tuple(rows[r][k] for r in range(k))


def random_machine(chance, states, letters, empty=0.3, end=0.5):
    rows = tuple(
        tuple(None if chance.random() < empty else chance.randrange(states) for _ in range(letters))
        for _ in range(states)
    )
    return (letters, rows, tuple(chance.random() < end for _ in range(states)))


def random_machines(seed, many, states=5):
    chance = random.Random(seed)
    return [
        random_machine(chance, chance.randint(1, states), chance.randint(1, 3), chance.random() / 2, chance.random())
        for _ in range(many)
    ]


def random_pairs(seed, many, states=4):
    chance = random.Random(seed)
    found = []
    for _ in range(many):
        letters = chance.randint(1, 3)
        found.append(tuple(
            random_machine(chance, chance.randint(1, states), letters, chance.random() / 2, chance.random())
            for _ in range(2)
        ))
    return found


def ring(states, ends, letters=1):
    """Each letter goes one state on, from the last one to the first."""
    rows = tuple((((state + 1) % states),) * letters for state in range(states))
    return (letters, rows, tuple(state in ends for state in range(states)))


def tailed_ring(tail, states, ends):
    """A ring of one letter behind a tail."""
    many = tail + states
    rows = tuple((state + 1 if state + 1 < many else tail,) for state in range(many))
    return (1, rows, tuple(state in ends for state in range(many)))


def wheel(states, moves, ends):
    """A state s goes by a letter with (times, more) to times * s + more, round about."""
    rows = tuple(tuple((times * s + more) % states for times, more in moves) for s in range(states))
    return (len(moves), rows, tuple(s in ends for s in range(states)))


def chain(states, letters=1, ends=None):
    """Each letter goes one state on; the last one has no letter."""
    rows = tuple(((s + 1,) if s + 1 < states else (None,)) * letters for s in range(states))
    return (letters, rows, tuple(s in ends if ends else s == states - 1 for s in range(states)))


def blown_up(machine, states, seed):
    """A machine of so many states with the same words; each state has several twins, led to by chance."""
    letters, rows, ends = machine
    chance = random.Random(seed)
    twins = [[s for s in range(states) if s % len(rows) == state] for state in range(len(rows))]
    blown = tuple(
        tuple(None if t is None else chance.choice(twins[t]) for t in rows[s % len(rows)]) for s in range(states)
    )
    return (letters, blown, tuple(ends[s % len(rows)] for s in range(states)))


def shuffled(machine, seed):
    """The machine with its states, but for state 0, in another order."""
    letters, rows, ends = machine
    order = list(range(1, len(rows)))
    random.Random(seed).shuffle(order)
    order = [0] + order
    place = {state: at for at, state in enumerate(order)}
    turned = tuple(tuple(None if t is None else place[t] for t in rows[state]) for state in order)
    return (letters, turned, tuple(ends[state] for state in order))


def doubled(machine):
    """The machine with a twin of each state, the items leading to twins in turn."""
    letters, rows, ends = machine
    many = len(rows)
    first = tuple(tuple(None if t is None else t + many for t in row) for row in rows)
    return (letters, first + rows, ends + ends)


def timed(call, *values):
    """What the call returns, or its error's class; it must not take longer than some seconds."""
    start = time.perf_counter()
    try:
        found = call(*values)
    except Exception as error:
        found = error.__class__
    taken = time.perf_counter() - start
    if taken > SECONDS:
        raise AssertionError(f"{call.__name__} took {taken} seconds")
    return found
