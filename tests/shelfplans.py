"""Plans, values and edits for the tests of shelves."""

from sortedshelves.comps import by_length, by_ranks, then, turned
from sortedshelves.orders import is_order
from sortedshelves.texts import plan_error
from tests.naive import random_query, some_comp, some_kind
from tests.reference import changed, naive_tells, random_line, random_unit, random_word, value_of, words_of
from tests.shelfmodel import put_in

ODD_VALUES = (
    None, True, False, 0, 1, -1, 3, 59, 60, 10 ** 59, -10 ** 59, "", "a", "b", "ab", "d", "-", "put", (), ("a",), [], ["a"],
    {}, {"a": 1}, ((), ()), (None,), ("is", "a"), ["is", "a"], ("undo",),
)


def some_order(chance, kind):
    """A comparison that is an order on the kind."""
    while True:
        comp = some_comp(chance, kind[0])
        if is_order(kind, comp):
            return comp


def some_room(chance, letters):
    if chance.random() < 0.5:
        return None
    return (random_unit(chance, letters), chance.choice((0, 5, 20, 40, 10 ** 6)))


def some_word(chance, kind):
    """A word of the kind, if there is one, mostly a short one."""
    words = words_of(kind, 4)
    return chance.choice(words) if words else random_word(chance, kind[0], 3)


def good_plan(chance, letters=None, states=3, few=6):
    """A good plan with few words."""
    letters = letters or chance.choice((1, 2, 2, 3))
    kind = some_kind(chance, letters, states)
    comp = some_order(chance, kind)
    line = random_line(chance, letters)
    words = ()
    for _ in range(chance.randint(0, few)):
        word = some_word(chance, kind)
        if word in words_of(kind, 4):
            words = put_in(comp, words, word)
    room = some_room(chance, letters)
    if room is not None and sum(value_of(room[0], word) for word in words) > room[1]:
        room = None
    plan = (kind, comp, line, room, words)
    assert plan_error(plan) is None, plan
    return plan


def some_value(chance, name, plan):
    """A value for an edit with this name, mostly a good one."""
    kind, letters = plan[0], plan[0][0]
    if chance.random() < 0.1:
        return chance.choice(ODD_VALUES)
    if name == "put":
        return some_word(chance, kind) if chance.random() < 0.9 else random_word(chance, letters, chance.randint(0, 5))
    if name == "take":
        return chance.randint(0, 5)
    if name == "weed":
        value = random_query(chance, letters, 2)
    elif name == "lay":
        value = random_line(chance, letters)
    elif name == "reorder":
        value = some_order(chance, kind) if chance.random() < 0.8 else some_comp(chance, chance.choice((letters, 2)))
    else:
        value = some_room(chance, letters)
    return changed(chance, value) if chance.random() < 0.1 else value


def some_item(chance, plan):
    name = chance.choice(("put", "put", "put", "put", "take", "weed", "lay", "reorder", "widen"))
    return (name, some_value(chance, name, plan))


def is_sorted(comp, words):
    return all(naive_tells(comp, one, other) < 1 for one, other in zip(words, words[1:]))


def plain_orders(letters):
    """Some orders on all words."""
    ranks = by_ranks(letters, (0, 1, 2)[:letters])
    return [ranks, by_length(letters), turned(ranks), then(by_length(letters), ranks), then(by_length(letters), turned(ranks))]
