"""Machines with the fewest stands that are wrong at as few rows as can be."""

from butfewrows.differing import count_unlike
from butfewrows.machines import letters_of
from butfewrows.near import apart, keepers, kinds, rows_to
from butfewrows.small import shrunk, small


def least_wrong(machine):
    """The least number of rows at which a machine is wrong that has the fewest stands and is wrong at few."""
    return count_unlike(machine, best_lean(machine))


def best_lean(machine):
    """A machine with the fewest stands that is wrong at the least number of rows.

    All machines with the fewest stands that are wrong at few rows have the stands that endlessly many rows
    come to, as they are, and one for each kind without such a stand. Where that one leads, and whether it is
    good, can be chosen freely: for each of these choices other rows are wrong, so each is made by itself.
    """
    least = small(machine)
    kept = keepers(least)
    moves = {}
    good = {}
    for stand in kept:
        crowd = crowd_of(least, stand)
        moves[stand] = [(letter, best_place(least, kept, [(least.steps[other][letter], many) for other, many in crowd]))
                        for letter in range(letters_of(least))]
        if is_mostly_good(least, crowd):
            good[stand] = True
    return shrunk(moves, good, best_place(least, kept, [(0, 1)]))


def crowd_of(machine, stand):
    """The stands in whose place a stand that is kept stays, each with the number of rows that come to it."""
    if rows_to(machine, stand) is None:
        # This one goes on as it is, whatever the few rows would like that come to others.
        return [(stand, 1)]
    numbers = kinds(machine)
    return [(other, rows_to(machine, other)) for other in range(len(machine)) if numbers[other] == numbers[stand]]


def best_place(machine, kept, crowd):
    """The stand that is kept, of the kind of a crowd, that is wrong at the fewest rows in place of the crowd."""
    numbers = kinds(machine)
    first, _ = crowd[0]
    wrongs = [(wrong_in_place(machine, stand, crowd), stand) for stand in kept if numbers[stand] == numbers[first]]
    return min(wrongs)[1]


def wrong_in_place(machine, stand, crowd):
    """The number of rows that are wrong if those of a crowd go on from another stand of its kind."""
    return sum([many * apart(machine, stand, other) for other, many in crowd])


def is_mostly_good(machine, crowd):
    """Whether more rows of a crowd come to good stands than to others."""
    return sum([many if stand in machine.good else -many for stand, many in crowd]) > 0
