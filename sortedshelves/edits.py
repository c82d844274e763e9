"""Edits: what each one makes of a plan, and what of edits stands, was removed, and can be put back.

A past is a tuple (plans, stood, removed): the plans of all versions, the edits that stand, and the
edits that undo has removed, each with the plan behind it, the last one last.
"""

from sortedshelves.bounds import MAX_WORDS
from sortedshelves.checks import is_number
from sortedshelves.comps import comp_error, tells
from sortedshelves.errors import (
    BadComp, BadLine, BadQuery, BadRoom, BadWord, Crowded, Faulty, Full, NothingToRedo, NothingToUndo, NoWord, Outside,
)
from sortedshelves.machines import is_of
from sortedshelves.orders import first_fault
from sortedshelves.queries import answers, query_error
from sortedshelves.steps import image, line_error
from sortedshelves.texts import is_above, is_room, is_shelved

NAMES = ("put", "take", "weed", "lay", "reorder", "widen")


def edited(plan, name, value, faults):
    """The plan behind the edit; faults has what is known of comparisons, and gets what is asked."""
    kind, comp, line, room, words = plan
    if name == "put":
        return (kind, comp, line, room, put_on(plan, value))
    if name == "take":
        check_index(words, value)
        return (kind, comp, line, room, words[:value] + words[value + 1:])
    if name == "weed":
        check_query(kind, value)
        return (kind, comp, line, room, tuple([word for word in words if not answers(comp, value, word)]))
    if name == "lay":
        error = line_error(kind[0], value)
        if error is not None:
            raise BadLine(error)
        return (kind, comp, value, room, words)
    if name == "reorder":
        check_comp(kind, value, faults)
        return (kind, value, line, room, sorted_by(value, words))
    if not is_room(kind[0], value):
        raise BadRoom(value)
    if is_above(value, words):
        raise Full()
    return (kind, comp, line, value, words)


def put_on(plan, word):
    """The words of the plan with the image of the word put where it belongs."""
    kind, comp, line, room, words = plan
    if not is_shelved(kind, word):
        raise BadWord(word)
    found = image(line, word)
    if not is_of(kind, found):
        raise Outside(found)
    if len(words) >= MAX_WORDS:
        raise Crowded()
    if is_above(room, words + (found,)):
        raise Full()
    at = place_behind(comp, words, found)
    return words[:at] + (found,) + words[at:]


def place_behind(comp, words, word):
    """How many of the sorted words stand ahead of the word, if it stands behind those that are told the same."""
    low, high = 0, len(words)
    while low < high:
        middle = (low + high) // 2
        if tells(comp, words[middle], word) < 1:
            low = middle + 1
        else:
            high = middle
    return low


def sorted_by(comp, words):
    """The words sorted by the order, those told the same as they stood."""
    found = []
    for word in words:
        found.insert(place_behind(comp, found, word), word)
    return tuple(found)


def check_index(words, index):
    """Raise NoWord if the value is no index of the words."""
    if not is_number(index, 0, len(words) - 1):
        raise NoWord(index)


def check_query(kind, query):
    """Raise BadQuery if the value is no query for the letters of the kind."""
    if query_error(kind[0], query) is not None:
        raise BadQuery(query)


def check_comp(kind, comp, faults):
    """Raise BadComp or Faulty if the value is no comparison for the letters of the kind, or no order on it."""
    error = comp_error(comp)
    if error is not None or comp[0] != kind[0]:
        raise BadComp("letters" if error is None else error)
    if comp not in faults:
        faults[comp] = first_fault(kind, comp)
    if faults[comp] is not None:
        raise Faulty(faults[comp])


def begun(plan):
    """The past of a plan that was not edited."""
    return ((plan,), (), ())


def kept_on(past, edit, plan):
    """The past behind one more edit, which forgets what was removed."""
    plans, stood, _ = past
    return (plans + (plan,), stood + (edit,), ())


def undone(past):
    """The past without the last edit that stands."""
    plans, stood, removed = past
    if not stood:
        raise NothingToUndo()
    return (plans[:-1], stood[:-1], removed + ((stood[-1], plans[-1]),))


def redone(past):
    """The past with the edit that was removed last in its place again."""
    plans, stood, removed = past
    if not removed:
        raise NothingToRedo()
    edit, plan = removed[-1]
    return (plans + (plan,), stood + (edit,), removed[:-1])
