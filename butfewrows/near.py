"""Stands and machines that are alike but for few rows."""

from butfewrows.differing import count_unlike
from butfewrows.machines import Machine, check_stand
from butfewrows.pairs import Gap, count_rows
from butfewrows.small import merged, numbered, small


def apart(machine, one, other):
    """The number of rows at which two stands of a machine differ; None for endlessly many."""
    check_stand(machine, one)
    check_stand(machine, other)
    return count_rows(Gap(machine, machine, (one, other)))


def kinds(machine):
    """For each stand the number of its kind: stands of one kind differ at few rows alone."""
    found = numbered({stand: first_near(machine, stand) for stand in range(len(machine))})
    return tuple([found[stand] for stand in range(len(machine))])


def rows_to(machine, stand):
    """The number of rows by which a machine comes to a stand; None for endlessly many."""
    check_stand(machine, stand)
    # These are the rows that the machine would let by if this stand alone were good.
    return count_unlike(Machine(machine.steps, (stand,)), Machine(machine.steps, ()))


def fewest(machine):
    """The fewest stands of a machine that differs from this one at few rows."""
    return len(set(keepers(small(machine))))


def lean(machine):
    """A machine with the fewest stands that differs from this one at few rows."""
    least = small(machine)
    return merged(least, keepers(least))


def first_near(machine, stand):
    """The first stand that differs from a stand at few rows alone."""
    first = 0
    # A stand does not differ from itself, so this ends there at the latest.
    while apart(machine, first, stand) is None:
        first += 1
    return first


def keepers(machine):
    """For each stand of a machine that is as small as can be the stand that stays in its place in a lean one."""
    stands = list(range(len(machine)))
    numbers = kinds(machine)
    # Where endlessly many rows come to a stand, another one in its place would be wrong at endlessly many.
    lasting = [stand for stand in stands if rows_to(machine, stand) is None]
    return [stand if stand in lasting else first_alike(stand, numbers, lasting + stands) for stand in stands]


def first_alike(stand, numbers, order):
    """The first one, in an order of stands, that has the same number as a stand."""
    alike = [other for other in order if numbers[other] == numbers[stand]]
    return alike[0]
