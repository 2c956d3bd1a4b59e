"""Machines, and the rows that they let by."""

from butfewrows.checks import are_below, is_below
from butfewrows.errors import BadGood, BadRow, BadStand, BadSteps

MOST_STANDS = 8
MOST_LETTERS = 3
LONGEST_ROW = 40


class Machine:
    """A machine of a few stands; each letter leads from each stand to one."""

    def __init__(self, steps, good):
        check_steps(steps)
        check_good(good, len(steps))
        self._steps = steps
        self._good = good

    @property
    def steps(self):
        """For each stand the stands to which its letters lead."""
        return self._steps

    @property
    def good(self):
        """The good stands, ascending."""
        return self._good

    def __len__(self):
        return len(self._steps)

    def __eq__(self, other):
        return isinstance(other, Machine) and self._steps == other._steps and self._good == other._good


def check_steps(steps):
    """Raise BadSteps for any value that is no steps of a machine."""
    if not isinstance(steps, tuple) or not 1 <= len(steps) <= MOST_STANDS:
        raise BadSteps(None)
    for index, leads in enumerate(steps):
        if not are_leads(leads, len(steps)) or len(leads) != len(steps[0]):
            raise BadSteps(index)


def are_leads(leads, stands):
    """Whether any value tells where the letters lead from one of so many stands."""
    return are_below(leads, stands) and 1 <= len(leads) <= MOST_LETTERS


def check_good(good, stands):
    """Raise BadGood for any value that is no good stands of a machine of so many stands."""
    if not are_below(good, stands):
        raise BadGood("no tuple of stands")
    if not all([one < other for one, other in zip(good, good[1:])]):
        raise BadGood("not ascending")


def letters_of(machine):
    """The number of letters of a machine."""
    return len(machine.steps[0])


def check_stand(machine, stand):
    """Raise BadStand for any value that is no stand of a machine."""
    if not is_below(stand, len(machine)):
        raise BadStand("no stand of the machine")


def check_row(machine, row):
    """Raise BadRow for any value that is no row of a machine."""
    if not isinstance(row, tuple) or len(row) > LONGEST_ROW:
        raise BadRow(None)
    for index, letter in enumerate(row):
        if not is_below(letter, letters_of(machine)):
            raise BadRow(index)


def stand_behind(machine, row):
    """The stand in which a machine ends by a row."""
    check_row(machine, row)
    stand = 0
    for letter in row:
        stand = machine.steps[stand][letter]
    return stand


def lets(machine, row):
    """Whether a machine lets a row by."""
    return stand_behind(machine, row) in machine.good
