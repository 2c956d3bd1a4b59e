"""What all other files ask of numbers that are passed."""


def is_below(value, limit):
    """Whether any value is an integer from 0 on and below a limit."""
    # True and False are integers to Python, but not to this package.
    return isinstance(value, int) and not isinstance(value, bool) and 0 <= value < limit
