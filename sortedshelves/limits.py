"""Limits: words that keep one but not another one, and what words that keep a limit can be worth."""

from sortedshelves.counted import Counted, first_above, greatest_kept


def breach(machine, one, other):
    """The first word of the machine that keeps the limit one, but not other, or None."""
    unit, most = other
    return first_above(Counted(machine, one, unit), most)


def most_kept(machine, limit, form):
    """What greatest tells, but of the words of the machine that keep the limit."""
    return greatest_kept(Counted(machine, limit, form))
