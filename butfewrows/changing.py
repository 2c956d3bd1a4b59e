"""Machines whose steps are changed, one by one."""

from butfewrows.checks import is_below
from butfewrows.differing import count_unlike
from butfewrows.errors import BadStep
from butfewrows.machines import Machine, check_stand, letters_of


class Bench:
    """A machine that is changed, and what it was before each change."""

    def __init__(self, machine):
        self._first = machine
        self._later = []

    @property
    def machine(self):
        """The machine now."""
        return self._later[-1] if self._later else self._first

    def __len__(self):
        return len(self._later)

    def lead(self, stand, letter, goal):
        """Let a step lead elsewhere; the number of rows at which the first machine differs then."""
        return self._go_on(changed(self.machine, stand, letter, goal))

    def turn(self, stand):
        """Make a stand good, or no longer good; the number of rows at which the first machine differs then."""
        return self._go_on(turned_at(self.machine, stand))

    def undo(self):
        """Take the last change back; whether there was one."""
        if not self._later:
            return False
        self._later.pop()
        return True

    def copy(self):
        """A bench that stands as this one, and goes on by itself."""
        other = Bench(self._first)
        other._later = list(self._later)
        return other

    def _go_on(self, machine):
        """Have another machine; the number of rows at which the first one differs from it."""
        self._later.append(machine)
        return count_unlike(self._first, machine)


def changed(machine, stand, letter, goal):
    """The machine whose step from a stand by a letter leads to the stand goal."""
    check_stand(machine, stand)
    if not is_below(letter, letters_of(machine)):
        raise BadStep("no letter of the machine")
    check_stand(machine, goal)
    leads = put_at(machine.steps[stand], letter, goal)
    return Machine(put_at(machine.steps, stand, leads), machine.good)


def harmless(machine):
    """The steps (stand, letter, goal) that lead elsewhere now, and change the machine at few rows alone."""
    stands = list(range(len(machine)))
    return [(stand, letter, goal) for stand in stands for letter in range(letters_of(machine)) for goal in stands
            if machine.steps[stand][letter] != goal
            and count_unlike(machine, changed(machine, stand, letter, goal)) is not None]


def turned_at(machine, stand):
    """The machine of which a stand is good that is not, or no longer good if it is."""
    check_stand(machine, stand)
    good = [other for other in range(len(machine)) if (other in machine.good) != (other == stand)]
    return Machine(machine.steps, tuple(good))


def put_at(things, index, thing):
    """A tuple with another thing at an index."""
    return things[:index] + (thing,) + things[index + 1:]
