"""Machines with the fewest stands that let just the same rows by."""

from butfewrows.errors import BadHow, TooMany
from butfewrows.machines import MOST_STANDS, Machine
from butfewrows.pairs import all_moves, check_comparable, moves_of, only, reached

HOWS = ("either", "both", "just one")


def small(machine):
    """The machine with the fewest stands that lets the same rows by."""
    return shrunk(moves_of(machine), machine.good, 0)


def joined(one, other, how):
    """The machine with the fewest stands for the rows that either machine lets by, that both do, or just one."""
    check_comparable(one, other)
    if how not in HOWS:
        raise BadHow("no way to join machines")
    moves = all_moves(one, other)
    good = {(first, second): True for first, second in moves
            if is_let_by(how, first in one.good, second in other.good)}
    return shrunk(moves, good, (0, 0))


def is_let_by(how, first, second):
    """Whether a row is let by that the first machine, and the second one, let by or do not."""
    if how == "either":
        return first or second
    if how == "both":
        return first and second
    return first != second


def merged(machine, kept):
    """The small machine of what comes about if all steps to a stand lead to the one that is kept in its place."""
    moves = {stand: [(letter, kept[goal]) for letter, goal in enumerate(leads)]
             for stand, leads in enumerate(machine.steps)}
    return shrunk(moves, machine.good, kept[0])


def shrunk(moves, good, start):
    """The machine with the fewest stands that lets by the rows that lead by these moves from start to a good place.

    Moves may lead to more places than a machine has stands; TooMany if so many stay.
    """
    numbers = told_apart(only(moves, reached(moves, [start])), good)
    firsts = first_keys(numbers)
    if len(firsts) > MOST_STANDS:
        raise TooMany("more stands than a machine may have")
    steps = tuple([tuple([numbers[goal] for _, goal in moves[place]]) for place in firsts])
    return Machine(steps, tuple([number for number, place in enumerate(firsts) if place in good]))


def told_apart(moves, good):
    """For each place a number, equal ones for places from which the same rows lead to good ones."""
    numbers = None
    finer = numbered({place: place in good for place in moves})
    while finer != numbers:
        numbers = finer
        finer = numbered({place: (numbers[place], tuple([numbers[goal] for _, goal in moves[place]]))
                          for place in moves})
    return numbers


def numbered(marks):
    """For each key the number of its mark: equal ones for equal marks, 0, 1, 2 .. by their first keys."""
    numbers = {}
    found = {}
    for key in marks:
        mark = marks[key]
        if mark not in numbers:
            numbers[mark] = len(numbers)
        found[key] = numbers[mark]
    return found


def first_keys(numbers):
    """The first key of each of the numbers 0, 1, 2 .. that keys have by their first keys."""
    firsts = []
    for key in numbers:
        if numbers[key] == len(firsts):
            firsts.append(key)
    return firsts
