"""Shelves told plainly, as the document tells them, for comparison with the program's own ones."""

from sortedshelves import errors
from sortedshelves.comps import comp_error
from sortedshelves.lines import leaves, loses, unsorts
from sortedshelves.orders import first_fault
from sortedshelves.queries import query_error
from sortedshelves.steps import line_error
from tests.naive import naive_answers, naive_image
from tests.reference import holds, naive_tells, value_of

NAMES = ("put", "take", "weed", "lay", "reorder", "widen")


class Told(Exception):
    """An error of a model: the name of the class, and the fields."""

    def __init__(self, name, *fields):
        Exception.__init__(self, name, *fields)
        self.told = (name, *fields)


def is_int(value):
    return isinstance(value, int) and not isinstance(value, bool)


def is_room(letters, room):
    if room is None:
        return True
    if not isinstance(room, tuple) or len(room) != 2 or not isinstance(room[0], tuple) or len(room[0]) != letters:
        return False
    return all(is_int(part) and 0 <= part <= 9 for part in room[0]) and is_int(room[1]) and 0 <= room[1] <= 10 ** 6


def is_word(letters, value):
    return isinstance(value, str) and len(value) <= 200 and not set(value) - set("abc"[:letters])


def is_full(room, words):
    return room is not None and sum(value_of(room[0], word) for word in words) > room[1]


def put_in(comp, words, word):
    """The words with one more: behind all that are told -1 or 0 with it."""
    at = len([held for held in words if naive_tells(comp, held, word) < 1])
    return words[:at] + (word,) + words[at:]


def unsure(plan):
    kind, comp, line = plan[:3]
    for name, found in (("leaves", leaves(kind, line, kind)), ("loses", loses(kind, line)),
                        ("unsorts", unsorts(kind, comp, line))):
        if found is not None:
            return (name, found)
    return None


class Model:
    """A shelf, sure or not: its first plan and the edits that stand, done again each time."""

    def __init__(self, plan, sure=False):
        self.first, self.sure = plan, sure
        self.stood, self.removed = [], []
        self.known = {}
        self.sure_of(plan)

    def sure_of(self, plan):
        found = unsure(plan) if self.sure else None
        if found is not None:
            raise Told("Unsure", *found)

    def fault(self, comp):
        if comp not in self.known:
            self.known[comp] = first_fault(self.first[0], comp)
        return self.known[comp]

    def check_comp(self, comp):
        error = comp_error(comp)
        if error is not None or comp[0] != self.first[0][0]:
            raise Told("BadComp", error or "letters")
        if self.fault(comp) is not None:
            raise Told("Faulty", self.fault(comp))

    def one(self, plan, name, value):
        """The plan behind an edit, one that may lead to a plan that is not sure."""
        kind, comp, line, room, words = plan
        letters = kind[0]
        if name == "put":
            if not is_word(letters, value) or not holds(kind, value):
                raise Told("BadWord", value)
            image = naive_image(line, value)
            if not holds(kind, image):
                raise Told("Outside", image)
            if len(words) == 60:
                raise Told("Crowded")
            if is_full(room, words + (image,)):
                raise Told("Full")
            return (kind, comp, line, room, put_in(comp, words, image))
        if name == "take":
            if not is_int(value) or not 0 <= value < len(words):
                raise Told("NoWord", value)
            return (kind, comp, line, room, words[:value] + words[value + 1:])
        if name == "weed":
            if query_error(letters, value) is not None:
                raise Told("BadQuery", value)
            return (kind, comp, line, room, tuple(word for word in words if not naive_answers(comp, value, word)))
        if name == "lay":
            if line_error(letters, value) is not None:
                raise Told("BadLine", line_error(letters, value))
            return (kind, comp, value, room, words)
        if name == "reorder":
            self.check_comp(value)
            found = ()
            for word in words:
                found = put_in(value, found, word)
            return (kind, value, line, room, found)
        if not is_room(letters, value):
            raise Told("BadRoom", value)
        if is_full(value, words):
            raise Told("Full")
        return (kind, comp, line, value, words)

    def plan_at(self, version):
        """The plan behind so many of the edits that stand."""
        plan = self.first
        for name, value in self.stood[:version]:
            for item in value if name == "attempt" else [(name, value)]:
                plan = self.one(plan, *item)
        return plan

    def plan(self):
        return self.plan_at(len(self.stood))

    def edit(self, name, value):
        if len(self.stood) >= 80:
            raise Told("TooManyEdits")
        plan = self.one(self.plan(), name, value)
        if name in ("lay", "reorder"):
            self.sure_of(plan)
        self.stood.append((name, value))
        self.removed = []
        return len(self.stood)

    def undo(self):
        if not self.stood:
            raise Told("NothingToUndo")
        self.removed.append(self.stood.pop())
        return len(self.stood)

    def redo(self):
        if not self.removed:
            raise Told("NothingToRedo")
        self.stood.append(self.removed.pop())
        return len(self.stood)

    def attempt(self, items, ending=None):
        """ending is behind how many items a watch tells to end."""
        if not isinstance(items, (list, tuple)) or len(items) > 20:
            raise Told("BadEdits")
        for index, item in enumerate(items):
            if not isinstance(item, tuple) or len(item) != 2 or item[0] not in NAMES:
                raise Told("BadEdit", index)
        if not items:
            return 0
        if len(self.stood) >= 80:
            raise Told("TooManyEdits")
        plan, done = self.plan(), 0
        for index, item in enumerate(items):
            try:
                plan = self.one(plan, *item)
            except Told:
                raise Told("Rejected", index) from None
            done += 1
            if done == ending:
                break
        self.sure_of(plan)
        self.stood.append(("attempt", tuple(items[:done])))
        self.removed = []
        return done

    def find(self, query):
        kind, comp, _, _, words = self.plan()
        if query_error(kind[0], query) is not None:
            raise Told("BadQuery", query)
        return tuple(index for index, word in enumerate(words) if naive_answers(comp, query, word))

    def places(self, word):
        kind, comp, _, _, words = self.plan()
        if not is_word(kind[0], word):
            raise Told("BadWord", word)
        told = [naive_tells(comp, held, word) for held in words]
        return (len([one for one in told if one < 0]), len([one for one in told if one < 1]))

    def page(self, first, many):
        if not is_int(first) or not is_int(many) or first < 0 or many < 0:
            raise Told("BadPage", first, many)
        return tuple(word for index, word in enumerate(self.plan()[4]) if first <= index < first + many)

    def moves(self, comp):
        """By the longest row of words that may stay, tried from all shorter ones."""
        self.check_comp(comp)
        rows = {0: [None]}
        for word in self.plan()[4]:
            for many in sorted(rows, reverse=True):
                for last in rows[many]:
                    if last is None or naive_tells(comp, last, word) < 1:
                        rows.setdefault(many + 1, []).append(word)
                        break
        return len(self.plan()[4]) - max(rows)

    def age(self):
        return len(self.stood)

    def text(self):
        return f"{len(self.plan()[4])} words, {len(self.stood)} edits"


FIELDS = {
    "BadText": ("line",), "BadPlan": ("error",), "BadWord": ("word",), "BadQuery": ("query",), "BadLine": ("error",),
    "BadComp": ("error",), "BadRoom": ("room",), "BadPage": ("first", "many"), "Outside": ("word",), "Faulty": ("fault",),
    "Unsure": ("reason", "evidence"), "BadEdit": ("index",), "Rejected": ("index",), "NoWord": ("index",),
    "NoVersion": ("version",),
}


def outcome(call, *values, **named):
    """What the call returns, or ("raises", name of the error's class, its fields)."""
    try:
        return call(*values, **named)
    except Told as error:
        return ("raises", *error.told)
    except (errors.ShelfError, errors.NoWord, errors.NoVersion) as error:
        name = error.__class__.__name__
        return ("raises", name, *[getattr(error, field) for field in FIELDS.get(name, ())])


def look(shelf):
    """All that the queries of a shelf tell of it."""
    return (shelf.plan, shelf.age(), shelf.edits(), len(shelf), str(shelf), bool(shelf),
            tuple(shelf.plan_at(version=k) for k in range(shelf.age() + 1)))


def to_come(shelf):
    """The edits that redo puts back, one after another; the shelf is left as it was."""
    many = 0
    while isinstance(outcome(shelf.redo), int):
        many += 1
    found = shelf.edits()
    for _ in range(many):
        shelf.undo()
    return found[len(found) - many:]
