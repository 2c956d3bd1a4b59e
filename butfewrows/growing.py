"""How fast the rows grow in number at which two machines differ."""

from butfewrows.pairs import compared, looped_rows, reached


def growth(one, other):
    """The power as which the rows of at most so many letters grow in number; 0 for few rows, None if faster."""
    gap = compared(one, other)
    # Two loops at one pair can follow each other in any order: so rows double again and again.
    if looped_rows(gap, 2) is not None:
        return None
    return most_rings(gap.moves)


def twins(one, other):
    """Rows (head, loop, second, tail) by which rows double at which two machines differ; None if they do not."""
    return looped_rows(compared(one, other), 2)


def most_rings(moves):
    """The most rings that one row can go round, where no pair lies on two rings.

    How often a row goes round each of them is free but for its length: so each ring makes the power one higher.
    """
    ahead = {pair: reached(moves, [pair]) for pair in moves}
    rings = {}
    # To fewer pairs lead rows from a ring than from those before it: so it comes first here.
    for _, pair in sorted([(len(ahead[pair]), pair) for pair in moves]):
        if any([pair in ahead[goal] for _, goal in moves[pair]]):
            behind = [rings[other] for other in ahead[pair] if other in rings and pair not in ahead[other]]
            rings[pair] = 1 + max(behind, default=0)
    return max(rings.values(), default=0)
