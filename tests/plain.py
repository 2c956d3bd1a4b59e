"""What the tests hold the program against: plain runs over rows, and machines to run."""

from itertools import product

from butfewrows.machines import Machine


def plainly_behind(machine, row):
    stand = 0
    for letter in row:
        stand = machine.steps[stand][letter]
    return stand


def plainly_lets(machine, row):
    return plainly_behind(machine, row) in machine.good


def plainly_differ(one, other, row):
    return plainly_lets(one, row) != plainly_lets(other, row)


def all_rows(letters, most):
    """All rows of at most so many letters, by length and then as tuples."""
    return [row for length in range(most + 1) for row in product(range(letters), repeat=length)]


def plainly_unlike(one, other, most):
    """The rows of at most so many letters at which two machines differ, in order."""
    return [row for row in all_rows(len(one.steps[0]), most) if plainly_differ(one, other, row)]


def plain_count(one, other, start=(0, 0)):
    """The number of rows at which two machines differ that begin in these stands; None for endlessly many."""
    turn = len(one) * len(other)
    counts, found = {start: 1}, []
    for _ in range(2 * turn):
        found.append(sum(many for (first, second), many in counts.items()
                         if (first in one.good) != (second in other.good)))
        counts = plainly_further(counts, lambda pair: list(zip(one.steps[pair[0]], other.steps[pair[1]])))
    # A row as long as there are pairs of stands comes to one of them twice: so there are endlessly many such rows,
    # and one of them is less than twice as long.
    return None if any(found[turn:]) else sum(found)


def plain_count_to(machine, stand):
    """The number of rows by which a machine comes to a stand; None for endlessly many."""
    counts, found = {0: 1}, []
    for _ in range(2 * len(machine)):
        found.append(counts.get(stand, 0))
        counts = plainly_further(counts, lambda there: machine.steps[there])
    return None if any(found[len(machine):]) else sum(found)


def plain_kinds(machine):
    """For each stand the number of its kind, by counts of the rows at which stands differ."""
    stands = range(len(machine))
    firsts = [min(other for other in stands if plain_count(machine, machine, (other, stand)) is not None)
              for stand in stands]
    return tuple(sorted(set(firsts)).index(first) for first in firsts)


def plainly_first(one, other):
    """The number of letters of the shortest row at which two machines differ; None if they differ at none."""
    layer = {(0, 0)}
    for length in range(len(one) * len(other)):
        if any((first in one.good) != (second in other.good) for first, second in layer):
            return length
        layer = {pair for first, second in layer for pair in zip(one.steps[first], other.steps[second])}
    # A longer row comes to a pair of stands twice, and differs without the letters between as well.
    return None


def plainly_further(counts, goals):
    """How many rows come to each place by one letter more."""
    then = {}
    for place, many in counts.items():
        for goal in goals(place):
            then[goal] = then.get(goal, 0) + many
    return then


def every_machine(stands, letters):
    """All machines of so many stands and letters."""
    leads = list(product(range(stands), repeat=letters))
    return [Machine(steps, tuple(stand for stand in range(stands) if bits >> stand & 1))
            for steps in product(leads, repeat=stands) for bits in range(2 ** stands)]


def some_machine(chance, stands, letters):
    """A machine by chance."""
    steps = tuple(tuple(chance.randrange(stands) for _ in range(letters)) for _ in range(stands))
    return Machine(steps, some_good(chance, range(stands)))


def some_good(chance, stands):
    return tuple(stand for stand in stands if chance.random() < 0.5)


def some_near_pair(chance, stands, front, letters):
    """Two machines by chance that go on alike behind their first stands, which lead forwards alone."""
    goals = [tuple(chance.randrange(front, stands) for _ in range(letters)) for _ in range(stands)]
    late = some_good(chance, range(front, stands))
    found = []
    for _ in range(2):
        leads = [tuple(chance.randrange(stand + 1, front + 1) for _ in range(letters)) for stand in range(front)]
        found.append(Machine(tuple(leads + goals[front:]), some_good(chance, range(front)) + late))
    return found


def chain(stands, letters):
    """The machine that lets all rows by of as many letters as there are steps to the last stand, or more."""
    steps = tuple((min(stand + 1, stands - 1),) * letters for stand in range(stands))
    return Machine(steps, (stands - 1,))


def wheel(stands, good):
    """The machine of one letter that goes round."""
    return Machine(tuple(((stand + 1) % stands,) for stand in range(stands)), good)


def letting_all(letters):
    return Machine(((0,) * letters,), (0,))


def letting_none(letters):
    return Machine(((0,) * letters,), ())
