"""The errors that this package raises."""


class MachineError(ValueError):
    """The base class of all errors here."""


class BadSteps(MachineError):
    """What was passed as the steps of a machine is none; index tells the first bad row."""

    def __init__(self, index):
        super().__init__(f"no steps of a machine: {told(index)}")
        self.index = index


class BadGood(MachineError):
    """What was passed as the good stands of a machine is none."""


class BadRow(MachineError):
    """What was passed as a row of letters is none; index tells the first bad letter."""

    def __init__(self, index):
        super().__init__(f"no row of letters: {told(index)}")
        self.index = index


class BadStand(MachineError):
    """What was passed as a stand is none."""


class BadStep(MachineError):
    """What was passed as a letter of a step is none."""


class BadNumber(MachineError):
    """What was passed as a number is none, or lies outside of its limits."""


class BadHow(MachineError):
    """What was passed as a way to join machines is none."""


class NotComparable(MachineError):
    """The machines have not as many letters."""


class TooMany(MachineError):
    """The answer has more stands or rows than it may have."""


class InvalidText(MachineError):
    """A text stands for no machine; line and word, counted from 1, tell where."""

    def __init__(self, line, word):
        super().__init__(f"no text of a machine: line {line}, word {word}")
        self.line = line
        self.word = word


class BadRows(MachineError):
    """What was passed as rows is none; index tells the first bad row."""

    def __init__(self, index):
        super().__init__(f"no rows: {told(index)}")
        self.index = index


class BadMachines(MachineError):
    """What was passed as machines is none; index tells the first thing that is no machine."""

    def __init__(self, index):
        super().__init__(f"no machines: {told(index)}")
        self.index = index


def told(index):
    """The index of a bad thing in words; None stands for a fault of the whole."""
    return "the kind or the length of the whole" if index is None else f"the thing at {index}"
