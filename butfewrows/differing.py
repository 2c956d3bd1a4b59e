"""At which rows two machines differ."""

from butfewrows.checks import is_below
from butfewrows.errors import BadNumber
from butfewrows.pairs import compared, count_rows, further, in_order, looped_rows, turned

MOST_LENGTH = 200
MOST_PLACE = 1000


def word(one, other):
    """Whether two machines are alike, or differ at few or at many rows."""
    gap = compared(one, other)
    if not gap.moves:
        return "alike"
    return "many" if in_order(gap.moves) is None else "few"


def count_unlike(one, other):
    """The number of rows at which two machines differ; None for endlessly many."""
    return count_rows(compared(one, other))


def longest(one, other):
    """The length of the longest row at which two machines differ; None for endlessly many."""
    gap = compared(one, other)
    order = in_order(gap.moves)
    if order is None:
        return None
    lengths = {}
    for pair in reversed(order):
        lengths[pair] = max([lengths[goal] + 1 for _, goal in gap.moves[pair]], default=0)
    return lengths.get(gap.start, -1)


def unlike_of(one, other, length):
    """The number of rows of a length at which two machines differ."""
    gap = compared(one, other)
    if not is_below(length, MOST_LENGTH + 1):
        raise BadNumber("no length from 0 to 200")
    counts = at_start(gap)
    for _ in range(length):
        counts = further(gap.moves, counts)
    return ended(gap, counts)


def kth_unlike(one, other, k):
    """The row behind k others at which two machines differ, by length and then as tuples."""
    gap = compared(one, other)
    if not is_below(k, MOST_PLACE + 1):
        raise BadNumber("no place from 0 to 1000")
    length, place = place_in_length(gap, k)
    return row_at(gap, length, place)


def ring(one, other):
    """Rows (head, loop, tail) by which two machines differ at endlessly many rows; None if they do not."""
    return looped_rows(compared(one, other), 1)


def at_start(gap):
    """How many rows of no letters come to each pair of a gap."""
    return {gap.start: 1} if gap.moves else {}


def ended(gap, counts):
    """How many of the rows that come to each pair tell the machines apart."""
    return sum([counts[pair] for pair in counts if pair in gap.ends])


def place_in_length(gap, k):
    """The length of the row behind k others, and its place among those of this length."""
    counts = at_start(gap)
    length = 0
    while counts:
        many = ended(gap, counts)
        if k < many:
            return length, k
        k -= many
        counts = further(gap.moves, counts)
        length += 1
    raise BadNumber("not below the number of rows")


def row_at(gap, length, place):
    """The row of a gap with so many letters and this place among those with as many."""
    ways = ways_on(gap, length)
    pair = gap.start
    row = []
    for rest in reversed(range(length)):
        (letter, pair), place = move_at(gap.moves[pair], ways[rest], place)
        row.append(letter)
    return tuple(row)


def ways_on(gap, length):
    """For each number of letters up to a length, how many rows of so many lead from each pair to an end."""
    back = turned(gap.moves)
    ways = [{pair: 1 for pair in gap.ends}]
    for _ in range(length):
        ways.append(further(back, ways[-1]))
    return ways


def move_at(moves, ways, place):
    """The move of the row at a place, and its place among the rows by this move."""
    at = 0
    while place >= ways.get(moves[at][1], 0):
        place -= ways.get(moves[at][1], 0)
        at += 1
    return moves[at], place
