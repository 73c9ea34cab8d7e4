"""The kinds of plain values: integers, numbers and names."""

GREATEST = 10 ** 30
LONGEST_NAME = 8


def is_integer(value):
    """Whether the value is an integer; True and False are none."""
    return isinstance(value, int) and not isinstance(value, bool)


def is_within(value, low, high):
    """Whether the value is an integer from low to high."""
    return is_integer(value) and low <= value <= high


def is_number(value):
    """Whether the value is a number."""
    return is_within(value, -GREATEST, GREATEST)


def is_range(low, high):
    """Whether both are numbers, low at most high."""
    return is_number(low) and is_number(high) and low <= high


def is_name(value):
    """Whether the value is a name."""
    if not isinstance(value, str) or len(value) > LONGEST_NAME:
        return False
    return value.isascii() and value.isalpha() and value.islower()


def is_row(value):
    """Whether the value is a list or a tuple."""
    return isinstance(value, (list, tuple))
