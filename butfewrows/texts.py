"""Texts that stand for machines."""

from butfewrows.errors import InvalidText
from butfewrows.machines import MOST_LETTERS, MOST_STANDS, Machine

GOOD = "good"
BAD = "bad"


def write(machine):
    """The text of a machine: a line for each stand."""
    return "\n".join([line_of(machine, stand) for stand in range(len(machine))])


def read(text):
    """The machine of a text; InvalidText if there is none."""
    lines = text.split("\n")
    rows = [words_of(line) for line in lines[:MOST_STANDS]]
    check_words(rows, 0, 1, MOST_LETTERS)
    letters = len(rows[0]) - 1
    for index in range(1, len(rows)):
        check_words(rows, index, letters, letters)
    if len(lines) > MOST_STANDS:
        raise InvalidText(MOST_STANDS + 1, 1)
    steps = tuple([tuple([int(goal) for goal in words[1:]]) for words in rows])
    return Machine(steps, tuple([stand for stand, words in enumerate(rows) if words[0] == GOOD]))


def line_of(machine, stand):
    """The line of a stand in the text of a machine."""
    mark = GOOD if stand in machine.good else BAD
    return " ".join([mark] + [str(goal) for goal in machine.steps[stand]])


def words_of(line):
    """The words of a line; spaces alone stand between words."""
    return [word for word in line.split(" ") if word != ""]


def check_words(rows, index, least, most):
    """Raise InvalidText if the words at an index are no stand with so many letters, at least and at most."""
    words = rows[index]
    for place, word in enumerate(words):
        if word not in words_at(place, len(rows), most):
            raise InvalidText(index + 1, place + 1)
    if len(words) < 1 + least:
        raise InvalidText(index + 1, len(words) + 1)


def words_at(place, stands, letters):
    """The words that can stand at a place of a line, with so many stands and at most so many letters."""
    if place == 0:
        return [GOOD, BAD]
    return [str(stand) for stand in range(stands)] if place <= letters else []
