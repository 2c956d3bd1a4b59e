"""Machines with the fewest stands that are right for all rows up to a length."""

from butfewrows.checks import is_below
from butfewrows.errors import BadNumber
from butfewrows.pairs import Gap, moves_of, shortest_row
from butfewrows.small import merged, small

MOST_COVERED = 40


def cover(machine, length):
    """The fewest stands of a machine that lets by the same of all rows of at most so many letters."""
    return len(covering(machine, length))


def covering(machine, length):
    """A machine with the fewest stands that lets by the same of all rows of at most so many letters."""
    if not is_below(length, MOST_COVERED + 1):
        raise BadNumber("no length from 0 to 40")
    found = small(machine)
    kept = kept_up_to(found, length)
    while kept is not None:
        found = merged(found, kept)
        kept = kept_up_to(found, length)
    return found


def kept_up_to(machine, length):
    """For each stand of a small machine the one to keep in its place, where one can go; None if none can.

    A stand can go if one before it takes as few letters to come to, and no row tells them apart
    that is short enough behind these letters. If none can, then the shortest rows to any two stands
    have to lead to two stands in each machine that is right up to the length.
    """
    stands = list(range(len(machine)))
    moves = moves_of(machine)
    for stand in stands:
        # Stands of a small machine are numbered as they are come to: so none before takes more letters.
        rest = length - len(shortest_row(moves, 0, {stand: True}))
        for other in stands[:stand]:
            if letters_apart(machine, other, stand) > rest:
                return stands[:stand] + [other] + stands[stand + 1:]
    return None


def letters_apart(machine, one, other):
    """The least number of letters that tell two stands of a small machine apart."""
    gap = Gap(machine, machine, (one, other))
    return len(shortest_row(gap.moves, gap.start, gap.ends))
