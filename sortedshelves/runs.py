"""Runs: plans with what was done to them, played again; and copies that are put together."""

from sortedshelves.bounds import MAX_ENTRIES
from sortedshelves.edits import NAMES, begun, edited, kept_on, redone, undone
from sortedshelves.errors import NoWord, ShelfError
from sortedshelves.texts import plan_error


def run_error(value):
    """What is wrong with the value as a run, the first of it; None if nothing is."""
    if not isinstance(value, tuple) or len(value) != 2:
        return ("run", None)
    plan, entries = value
    error = plan_error(plan)
    if error is not None:
        return ("plan", error)
    if not isinstance(entries, tuple) or len(entries) > MAX_ENTRIES:
        return ("entries", None)
    for index, entry in enumerate(entries):
        if not is_entry(entry):
            return ("entry", index)
    return None


def is_entry(value):
    """Whether the value is an entry."""
    if not isinstance(value, tuple):
        return False
    return value == ("undo",) or value == ("redo",) or len(value) == 2 and value[0] in NAMES


def replayed(run):
    """The plan in the end, and what each entry returns, or the name of the error that it raises."""
    past, told = played(run)
    return (past[0][-1], told)


def kept(run):
    """The entries that stand in the end."""
    return played(run)[0][1]


def played(run):
    """The past in the end, and what is told of each entry."""
    plan, entries = run
    past, faults, told = begun(plan), {plan[1]: None}, []
    for entry in entries:
        try:
            past = behind(past, entry, faults)
            told.append(len(past[1]))
        except (ShelfError, NoWord) as error:
            told.append(error.__class__.__name__)
    return past, tuple(told)


def behind(past, entry, faults):
    """The past behind the entry."""
    if entry == ("undo",):
        return undone(past)
    if entry == ("redo",):
        return redone(past)
    return kept_on(past, entry, edited(past[0][-1], entry[0], entry[1], faults))


def joined(base, one, other):
    """What two copies of base that were changed apart come to together, in order."""
    numbers = {}
    for words, weight in ((base, -1), (one, 1), (other, 1)):
        for word in words:
            numbers[word] = numbers.get(word, 0) + weight
    found = []
    for word in sorted(list(numbers), key=lambda held: (len(held), held)):
        found += [word] * max(numbers[word], 0)
    return tuple(found)


def fewest_runs(base, goal):
    """The least number of puts and takes of single words that lead from base to goal."""
    numbers = {}
    for words, weight in ((base, -1), (goal, 1)):
        for word in words:
            numbers[word] = numbers.get(word, 0) + weight
    return sum([abs(number) for number in numbers.values()])
