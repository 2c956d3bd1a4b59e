"""What all other files ask of values that are passed."""


def is_below(value, limit):
    """Whether any value is an integer from 0 on and below a limit."""
    # True and False are integers to Python, but not to this package.
    return isinstance(value, int) and not isinstance(value, bool) and 0 <= value < limit


def are_below(values, limit):
    """Whether any value is a tuple of integers from 0 on and below a limit."""
    return isinstance(values, tuple) and all([is_below(value, limit) for value in values])


def is_list_up_to(values, most):
    """Whether any value is a list or tuple of at least one thing and at most so many."""
    return isinstance(values, (list, tuple)) and 1 <= len(values) <= most
