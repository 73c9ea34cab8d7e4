"""The kinds of plain values: integers, numbers and names."""

GREATEST = 10 ** 30
LEAST = -GREATEST
LONGEST_NAME = 8


def is_integer(value):
    """Whether the value is an integer; True and False are none."""
    return isinstance(value, int) and not isinstance(value, bool)


def is_within(value, low, high):
    """Whether the value is an integer from low to high."""
    return isinstance(value, int) and not isinstance(value, bool) and low <= value <= high


def is_number(value):
    """Whether the value is a number."""
    return isinstance(value, int) and not isinstance(value, bool) and LEAST <= value <= GREATEST


def is_range(low, high):
    """Whether both are numbers, low at most high."""
    if not isinstance(low, int) or not isinstance(high, int) or isinstance(low, bool) or isinstance(high, bool):
        return False
    return LEAST <= low <= high <= GREATEST


def is_name(value):
    """Whether the value is a name."""
    return (isinstance(value, str) and len(value) <= LONGEST_NAME
            and value.isalpha() and value.isascii() and value.islower())


def is_row(value):
    """Whether the value is a list or a tuple."""
    return isinstance(value, (list, tuple))
