"""Shelves: plans that are edited, with undo and redo, attempts with watches, and queries."""

from sortedshelves.bounds import BATCH, MAX_LONG
from sortedshelves.checks import is_integer, is_number, is_word
from sortedshelves.comps import tells
from sortedshelves.edits import (
    NAMES, begun, check_comp, check_index, check_query, edited, kept_on, redone, undone,
)
from sortedshelves.errors import (
    BadEdit, BadEdits, BadPage, BadPlan, BadWord, Busy, NoVersion, NoWord, Rejected, ShelfError, TooManyEdits, Unsure,
)
from sortedshelves.lines import leaves, loses, unsorts
from sortedshelves.queries import answers
from sortedshelves.texts import plan_error


class Shelf:
    """A good plan that is edited; its version is the number of edits that stand."""

    MOST_EDITS = 80
    SURE = False

    def __init__(self, plan):
        error = plan_error(plan)
        if error is not None:
            raise BadPlan(error)
        self.plan = plan
        self.past = begun(plan)
        self.busy = False
        # What first_fault is known to tell of comparisons, for the kind, which never changes.
        self.faults = {plan[1]: None}

    def check_coming(self, plan, ahead):
        """Let the plan stand behind the one ahead of it; derived classes may raise an error."""
        pass

    def check_free(self):
        """Raise Busy while a watch runs or its result is asked."""
        if self.busy:
            raise Busy()

    def check_many(self):
        """Raise TooManyEdits if no more edits may stand."""
        if len(self.past[1]) >= self.MOST_EDITS:
            raise TooManyEdits()

    def edit(self, name, value):
        """Do one edit; the new version."""
        self.check_free()
        self.check_many()
        plan = edited(self.plan, name, value, self.faults)
        self.check_coming(plan, self.plan)
        return self.stand(kept_on(self.past, (name, value), plan))

    def stand(self, past):
        """Let this be what was done; the version."""
        self.past = past
        self.plan = past[0][-1]
        return len(past[1])

    def put(self, word):
        """Put the image of the word where it belongs."""
        return self.edit("put", word)

    def take(self, index):
        """Take the word with this index away."""
        return self.edit("take", index)

    def weed(self, query):
        """Take all words away that answer the query."""
        return self.edit("weed", query)

    def lay(self, line):
        """Let the plan have another line."""
        return self.edit("lay", line)

    def reorder(self, comp):
        """Let the plan have another comparison, and sort the words by it."""
        return self.edit("reorder", comp)

    def widen(self, room):
        """Let the plan have another room."""
        return self.edit("widen", room)

    def undo(self):
        """Remove the last edit that stands."""
        self.check_free()
        return self.stand(undone(self.past))

    def redo(self):
        """Put the edit that was removed last in its place again."""
        self.check_free()
        return self.stand(redone(self.past))

    def attempt(self, edits, *, watch=None):
        """Do the edits as one, until watch tells to end; how many were done."""
        self.check_free()
        items = checked_items(edits)
        if not items:
            return 0
        self.check_many()
        past, plan, finished = self.past, self.plan, None
        self.busy = True
        try:
            many = self.do_items(items, watch)
            self.check_coming(self.plan, plan)
            finished = True
        finally:
            self.busy = False
            if finished is None:
                self.past, self.plan = past, plan
        return many

    def do_items(self, items, watch):
        """Do the items one after another as one edit, until watch tells to end; how many were done."""
        ahead = self.past
        for at, (name, value) in enumerate(items):
            try:
                plan = edited(self.plan, name, value, self.faults)
            except (ShelfError, NoWord):
                raise Rejected(at) from None
            self.stand(kept_on(ahead, ("attempt", items[:at + 1]), plan))
            if watch is not None and watch(self):
                return at + 1
        return len(items)

    def find(self, query):
        """The indexes of the words that answer the query."""
        check_query(self.plan[0], query)
        comp, words = self.plan[1], self.plan[4]
        return tuple([index for index, word in enumerate(words) if answers(comp, query, word)])

    def places(self, word):
        """How many words are below the word, and how many are below or like it."""
        if not is_word(word, self.plan[0][0], MAX_LONG):
            raise BadWord(word)
        told = [tells(self.plan[1], held, word) for held in self.plan[4]]
        return (told.count(-1), len(told) - told.count(1))

    def page(self, first, many):
        """The words from this index on, at most so many."""
        if not is_integer(first) or not is_integer(many) or first < 0 or many < 0:
            raise BadPage(first, many)
        return self.plan[4][first:first + many]

    def moves(self, comp):
        """The least number of words to be put elsewhere such that the words are sorted by the comparison."""
        check_comp(self.plan[0], comp, self.faults)
        words, best = self.plan[4], []
        for at, word in enumerate(words):
            ahead = [best[k] for k in range(at) if tells(comp, words[k], word) < 1]
            best.append(1 + max(ahead, default=0))
        return len(words) - max(best, default=0)

    def plan_at(self, *, version=None):
        """The plan after so many of the edits that stand; None stands for all."""
        if version is None:
            return self.plan
        if not is_number(version, 0, len(self.past[1])):
            raise NoVersion(version)
        return self.past[0][version]

    def age(self):
        """The version."""
        return len(self.past[1])

    def edits(self):
        """The edits that stand, the first one first."""
        return self.past[1]

    def __getitem__(self, at):
        check_index(self.plan[4], at)
        return self.plan[4][at]

    def __iter__(self):
        raise TypeError("a shelf is not iterated over; its words are plan[4]")

    def __iadd__(self, other):
        self.put(other)
        return self

    def __isub__(self, other):
        self.take(other)
        return self

    def __len__(self):
        return len(self.plan[4])

    def __str__(self):
        return f"{len(self.plan[4])} words, {len(self.past[1])} edits"

    def __eq__(self, other):
        return isinstance(other, Shelf) and self.SURE == other.SURE and self.plan == other.plan


class SureShelf(Shelf):
    """A shelf whose plan stays sure: no image leaves the kind, none is lost, and sorted words stay sorted."""

    SURE = True

    def __init__(self, plan):
        super().__init__(plan)
        check_sure(plan)

    def check_coming(self, plan, ahead):
        """Raise Unsure if the plan is not sure."""
        # The one ahead is sure and of the same kind, so with its comparison and line this one is, too.
        if plan[1:3] != ahead[1:3]:
            check_sure(plan)


def check_sure(plan):
    """Raise Unsure if the plan is not sure."""
    found = unsure(plan)
    if found is not None:
        raise Unsure(found[0], found[1])


def unsure(plan):
    """Why the plan is not sure, and what shows it; None if it is sure."""
    kind, comp, line = plan[:3]
    found = leaves(kind, line, kind)
    if found is not None:
        return ("leaves", found)
    found = loses(kind, line)
    if found is not None:
        return ("loses", found)
    found = unsorts(kind, comp, line)
    return None if found is None else ("unsorts", found)


def checked_items(edits):
    """The items of an attempt as a tuple; BadEdits or BadEdit if they are none."""
    if not isinstance(edits, (list, tuple)) or len(edits) > BATCH:
        raise BadEdits()
    items = tuple(edits)
    for index, item in enumerate(items):
        if not isinstance(item, tuple) or len(item) != 2 or item[0] not in NAMES:
            raise BadEdit(index)
    return items
