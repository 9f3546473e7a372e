"""Checks of single values. Any value may be asked about."""

LETTERS = "abcdefghijklmnopqrstuvwxyz"
LONGEST_NAME = 12
LEAST_Q = 2
GREATEST_Q = 64
GREATEST_SIZE = 4096


def is_integer(value):
    """Whether the value is an integer."""
    # For Python True and False are integers, here they are none.
    return isinstance(value, int) and not isinstance(value, bool)


def is_within(value, least, most):
    """Whether the value is an integer from least to most; None is no bound."""
    if not is_integer(value):
        return False
    if least is not None and value < least:
        return False
    return most is None or value <= most


def are_integers(value):
    """Whether the value is a list or tuple of integers, perhaps of none."""
    if not isinstance(value, (list, tuple)):
        return False
    return all([is_integer(item) for item in value])


def is_lot(value, many):
    """Whether the value is a list or tuple of ascending unlike integers from 0 on below many."""
    if not are_integers(value):
        return False
    least = 0
    for number in value:
        if number < least or number >= many:
            return False
        least = number + 1
    return True


def is_name(value):
    """Whether the value may name a file."""
    if not isinstance(value, str) or not is_within(len(value), 1, LONGEST_NAME):
        return False
    return all([letter in LETTERS for letter in value])


def is_q(value):
    """Whether the value is a q, by which strips are laid out."""
    return is_within(value, LEAST_Q, GREATEST_Q)


def is_size(value):
    """Whether the value is the size of a file."""
    return is_within(value, 1, GREATEST_SIZE)
