"""The kinds of plain values: integers, numbers and names."""

GREATEST = 10 ** 30
LEAST = -GREATEST
LONGEST_NAME = 8


def is_integer(value):
    """Whether the value is an integer; True and False are none."""
    return isinstance(value, int) and value is not True and value is not False


def is_within(value, low, high):
    """Whether the value is an integer from low to high."""
    return isinstance(value, int) and value is not True and value is not False and low <= value <= high


def is_number(value):
    """Whether the value is a number."""
    return isinstance(value, int) and value is not True and value is not False and LEAST <= value <= GREATEST


def is_range(low, high):
    """Whether both are numbers, low at most high."""
    if not isinstance(low, int) or not isinstance(high, int):
        return False
    if low is True or low is False or high is True or high is False:
        return False
    return LEAST <= low <= high <= GREATEST


def is_name(value):
    """Whether the value is a name."""
    return (isinstance(value, str) and len(value) <= LONGEST_NAME
            and value.isalpha() and value.isascii() and value.islower())


def is_row(value):
    """Whether the value is a list or a tuple."""
    return isinstance(value, (list, tuple))
