"""Pairs of stands, one of each of two machines, and the rows that tell them apart.

Moves are a dict with a list for each pair: its letters, ascending, each with the pair to which it leads.
What is done with moves here takes no account of their being pairs: single stands have moves as well.
"""

from butfewrows.errors import NotComparable
from butfewrows.machines import letters_of


class Gap:
    """The pairs by which rows go that begin in one pair and end with just one good stand.

    From each of these pairs such an end can still be come to: so there are
    endlessly many such rows if, and only if, the moves lead round in a ring.
    """

    def __init__(self, one, other, start):
        moves = all_moves(one, other)
        ends = [pair for pair in moves if (pair[0] in one.good) != (pair[1] in other.good)]
        ahead = reached(moves, [start])
        behind = reached(turned(moves), ends)
        self.start = start
        self.moves = only(moves, {pair: True for pair in ahead if pair in behind})
        self.ends = {pair: True for pair in ends if pair in self.moves}


def check_comparable(one, other):
    """Raise NotComparable for machines that have not as many letters."""
    if letters_of(one) != letters_of(other):
        raise NotComparable("the machines have not as many letters")


def compared(one, other):
    """The gap between two machines; NotComparable if they have not as many letters."""
    check_comparable(one, other)
    return Gap(one, other, (0, 0))


def moves_of(machine):
    """The moves of all stands of a machine."""
    return {stand: list(enumerate(leads)) for stand, leads in enumerate(machine.steps)}


def all_moves(one, other):
    """The moves of all pairs of stands of two machines."""
    return {(first, second): list(enumerate(zip(one.steps[first], other.steps[second])))
            for first in range(len(one)) for second in range(len(other))}


def turned(moves):
    """The moves backwards: to each pair, from where its letters come."""
    back = {pair: [] for pair in moves}
    for pair in moves:
        for letter, goal in moves[pair]:
            back[goal].append((letter, pair))
    return back


def only(moves, pairs):
    """The moves within some of the pairs."""
    return {pair: [(letter, goal) for letter, goal in moves[pair] if goal in pairs] for pair in pairs}


def reached(moves, starts):
    """A dict of the pairs to which rows lead from any of the starts, as they are come to, the starts first."""
    found = {pair: True for pair in starts}
    queue = list(starts)
    at = 0
    while at < len(queue):
        pair = queue[at]
        for _, goal in moves[pair]:
            if goal not in found:
                found[goal] = True
                queue.append(goal)
        at += 1
    return found


def in_order(moves):
    """The pairs, each one before those to which it leads; None if there is a ring."""
    before = {pair: 0 for pair in moves}
    for pair in moves:
        for _, goal in moves[pair]:
            before[goal] += 1
    free = [pair for pair in moves if before[pair] == 0]
    order = []
    while free:
        pair = free.pop()
        order.append(pair)
        for _, goal in moves[pair]:
            before[goal] -= 1
            if before[goal] == 0:
                free.append(goal)
    return order if len(order) == len(moves) else None


def count_rows(gap):
    """The number of rows of a gap; None if there are endlessly many."""
    order = in_order(gap.moves)
    if order is None:
        return None
    counts = {}
    for pair in reversed(order):
        counts[pair] = int(pair in gap.ends) + sum([counts[goal] for _, goal in gap.moves[pair]])
    return counts.get(gap.start, 0)


def further(moves, counts):
    """How many rows come to each pair by one more letter, if so many come to each now."""
    then = {}
    for pair in counts:
        for _, goal in moves[pair]:
            then[goal] = then.get(goal, 0) + counts[pair]
    return then


def shortest_row(moves, start, goals):
    """The first row, shorter ones before longer ones, from a pair to one of the goals; None if there is none."""
    rows = {start: ()}
    queue = [start]
    at = 0
    while at < len(queue):
        pair = queue[at]
        if pair in goals:
            return rows[pair]
        for letter, goal in moves[pair]:
            if goal not in rows:
                rows[goal] = (*rows[pair], letter)
                queue.append(goal)
        at += 1
    return None


def loops_at(moves, pair):
    """Rows of at least one letter that lead from a pair back to it, the shortest for each first letter."""
    back = [(letter, shortest_row(moves, goal, {pair: True})) for letter, goal in moves[pair]]
    return [(letter, *row) for letter, row in back if row is not None]


def looped_rows(gap, many):
    """A row to a pair of a gap, so many loops from there, and a row from there to an end; None if none has so many.

    The loops begin with unlike letters, so none is a beginning of another one.
    """
    for pair in gap.moves:
        loops = loops_at(gap.moves, pair)[:many]
        if len(loops) == many:
            head = shortest_row(gap.moves, gap.start, {pair: True})
            return head, *loops, shortest_row(gap.moves, pair, gap.ends)
    return None
