"""Machines mended at told rows, the rows at which machines differ, and lots of machines."""

from butfewrows.checks import are_below, is_list_up_to
from butfewrows.differing import word
from butfewrows.errors import BadMachines, BadRows, TooMany
from butfewrows.machines import Machine, lets, letters_of, stand_behind
from butfewrows.pairs import compared, count_rows, moves_of
from butfewrows.small import shrunk

MOST_MENDED = 10
LONGEST_MENDED = 6
MOST_LISTED = 1000
MOST_MACHINES = 8


def mended(machine, rows):
    """The machine with the fewest stands that differs from a machine just at these rows."""
    check_rows(machine, rows)
    moves = moves_of(machine)
    good = {stand: True for stand in machine.good}
    begun = {row[:length]: True for row in rows for length in range(len(row) + 1)}
    for start in begun:
        moves[start] = [(letter, place_behind(machine, begun, (*start, letter)))
                        for letter in range(letters_of(machine))]
        if lets(machine, start) != (start in rows):
            good[start] = True
    return shrunk(moves, good, ())


def unlike_rows(one, other):
    """All rows at which two machines differ, by length and then as tuples; None if there are endlessly many."""
    gap = compared(one, other)
    many = count_rows(gap)
    if many is None:
        return None
    if many > MOST_LISTED:
        raise TooMany("more rows than a list may have")
    found = []
    begun = [((), gap.start)] if gap.moves else []
    while begun:
        found.extend([row for row, pair in begun if pair in gap.ends])
        begun = [((*row, letter), goal) for row, pair in begun for letter, goal in gap.moves[pair]]
    return found


def lots(machines):
    """Tuples of the indexes of machines of which any two differ at few rows."""
    check_machines(machines)
    # Each machine is held against the first one, so NotComparable is raised by this.
    found = {}
    for index in range(len(machines)):
        found.setdefault(first_of_lot(machines, index), []).append(index)
    return [tuple(found[first]) for first in found]


def check_rows(machine, rows):
    """Raise BadRows for any value that is no rows to mend a machine at."""
    if not is_list_up_to(rows, MOST_MENDED):
        raise BadRows(None)
    for index, row in enumerate(rows):
        if not are_below(row, letters_of(machine)) or len(row) > LONGEST_MENDED or row in rows[:index]:
            raise BadRows(index)


def place_behind(machine, begun, row):
    """The place to which a row leads: itself while told rows begin with it, and a stand of the machine then."""
    return row if row in begun else stand_behind(machine, row)


def check_machines(machines):
    """Raise BadMachines for any value that is no list or tuple of machines."""
    if not is_list_up_to(machines, MOST_MACHINES):
        raise BadMachines(None)
    for index, machine in enumerate(machines):
        if not isinstance(machine, Machine):
            raise BadMachines(index)


def first_of_lot(machines, index):
    """The index of the first machine that differs from the one at an index at few rows."""
    first = 0
    # A machine does not differ from itself, so this ends there at the latest.
    while word(machines[first], machines[index]) == "many":
        first += 1
    return first
