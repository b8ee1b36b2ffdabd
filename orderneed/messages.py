"""What is a message (point 2)."""

LEAST_NUMBER = -1000000
GREATEST_NUMBER = 1000000


def is_whole(value):
    """Return whether a value is an integer. True and False are none."""
    return isinstance(value, int) and not isinstance(value, bool)


def is_row(value):
    """Return whether a value is a list or a tuple."""
    return isinstance(value, (list, tuple))


def is_number(value):
    """Return whether a value is a number of a message."""
    return is_whole(value) and LEAST_NUMBER <= value <= GREATEST_NUMBER


def is_message(value, names):
    """Return whether a value is a message with one of the names."""
    return is_row(value) and len(value) == 2 and value[0] in names and is_number(value[1])
