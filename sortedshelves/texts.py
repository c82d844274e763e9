"""Plans and their texts: what is wrong with a plan, how it is written, and how a text is read."""

from sortedshelves.bounds import MAX_LONG, MAX_ROOM, MAX_STATES, MAX_WORDS
from sortedshelves.checks import is_number, is_unit, is_word
from sortedshelves.comps import comp_error, tells
from sortedshelves.errors import BadPlan, BadText
from sortedshelves.forms import worth
from sortedshelves.graphs import LETTERS
from sortedshelves.machines import is_of, machine_error
from sortedshelves.orders import first_fault
from sortedshelves.parsing import plan_of_lines
from sortedshelves.steps import line_error

# How the verdicts -1, 0 and 1 are written, each behind the place of the next lesser one.
VERDICTS = ("less", "same", "more")


def plan_error(value):
    """What is wrong with the value as a good plan, the first of it; None if nothing is."""
    error = form_error(value)
    if error is not None:
        return error
    kind, comp, _, room, words = value
    fault = first_fault(kind, comp)
    if fault is not None:
        return ("order", fault)
    for index in range(len(words) - 1):
        if tells(comp, words[index], words[index + 1]) == 1:
            return ("sorted", index)
    return ("room", "full") if is_above(room, words) else None


def form_error(value):
    """What plan_error returns, but for orders, what is sorted, and full rooms."""
    if not isinstance(value, tuple) or len(value) != 5:
        return ("plan", None)
    kind, comp, line, room, words = value
    error = machine_error(kind)
    if error is not None or len(kind[1]) > MAX_STATES:
        return ("kind", "states" if error is None else error)
    letters = kind[0]
    error = comp_error(comp)
    if error is not None or comp[0] != letters:
        return ("comp", "letters" if error is None else error)
    error = line_error(letters, line)
    if error is not None:
        return ("line", error)
    if not is_room(letters, room):
        return ("room", None)
    if not isinstance(words, tuple) or len(words) > MAX_WORDS:
        return ("words", None)
    return None if all([is_shelved(kind, word) for word in words]) else ("words", None)


def is_room(letters, value):
    """Whether the value is a room for so many letters, or None."""
    if value is None:
        return True
    if not isinstance(value, tuple) or len(value) != 2:
        return False
    return is_unit(value[0], letters) and is_number(value[1], 0, MAX_ROOM)


def is_shelved(kind, value):
    """Whether the value is a word of the kind that is not too long for a shelf."""
    return is_word(value, kind[0], MAX_LONG) and is_of(kind, value)


def is_above(room, words):
    """Whether the counts of the words are more than the room has."""
    return room is not None and sum([worth(room[0], word) for word in words]) > room[1]


def plan_text(plan):
    """The text of the plan."""
    kind, comp, line, room, words = plan
    letters, rows, ends = kind
    lines = [" ".join(["letters", LETTERS[:letters]])]
    for row, end in zip(rows, ends):
        lines.append(" ".join(["state"] + ["." if item is None else str(item) for item in row] + ["end"] * end))
    for row, verdict in zip(comp[1], comp[2]):
        lines.append(" ".join(["row"] + [str(item) for item in row] + [VERDICTS[verdict + 1]]))
    lines += [step_text(step) for step in line]
    if room is not None:
        lines.append(counts_text("room", room[0], room[1]))
    lines += [f"word {word_text(word)}" for word in words]
    return "\n".join(lines)


def word_text(word):
    """The word as it is written; the empty one is "-"."""
    return "-" if word == "" else word


def counts_text(name, unit, most):
    """How a cut or a room is written."""
    return " ".join([name] + [str(part) for part in unit] + ["to", str(most)])


def step_text(step):
    """How the step is written."""
    name = step[0]
    if name == "cut":
        return counts_text(name, step[1], step[2])
    if name == "stop":
        return f"stop {step[1]}"
    if name == "pass":
        turns = [",".join([f"{turn}{out}" for turn, out in zip(row, outs)]) for row, outs in zip(step[1], step[2])]
        return " ".join([name] + turns)
    return " ".join([name] + [f"{piece}:{partner}" for piece, partner in step[1]])


def parse_plan(value):
    """The plan whose text the value is."""
    if not isinstance(value, str):
        raise BadText(None)
    plan = plan_of_lines(value.split("\n"))
    error = form_error(plan)
    if error is not None:
        raise BadPlan(error)
    return plan
