"""Greatest values for all counts, told by tuples (firsts, stairs, endless) as formulas have them."""


def value_at(growth, count):
    """The greatest value for a count: an integer, None or "endless"."""
    firsts, stairs, endless = growth
    if endless is not None and count >= endless:
        return "endless"
    if count < len(firsts):
        return firsts[count]
    return max([value + gain * (count // period) for offset, period, value, gain in stairs
                if count % period == offset], default=None)


def first_above(growth, most):
    """The first count for which the value is greater than most; None if there is none."""
    firsts, stairs, endless = growth
    for count, value in enumerate(firsts):
        if endless is not None and count >= endless:
            return endless
        if value is not None and value > most:
            return count
    found = [first_on(stair, len(firsts), most) for stair in stairs]
    return min([count for count in [endless, *found] if count is not None], default=None)


def first_on(stair, least, most):
    """The first count, from least on, for which a stair is greater than most; None if there is none."""
    offset, period, value, gain = stair
    rounds = max(0, (least - offset + period - 1) // period)
    if value + gain * rounds <= most:
        if gain == 0:
            return None
        rounds = (most - value) // gain + 1
    return rounds * period + offset


def early_values(growth, many):
    """The list of the values for so many first counts, for which none is endless."""
    firsts = growth[0]
    return firsts[:many] + [value_at(growth, count) for count in range(len(firsts), many)]


def joined(first, second):
    """What tells the greatest of both values."""
    endless = least_of(first[2], second[2])
    many = max(len(first[0]), len(second[0]))
    many = many if endless is None else min(many, endless)
    firsts = [greater_of(one, other) for one, other in zip(early_values(first, many), early_values(second, many))]
    best = {}
    for offset, period, value, gain in [*first[1], *second[1]]:
        key = (offset, period, gain)
        if key not in best or best[key] < value:
            best[key] = value
    return (firsts, [(offset, period, best[(offset, period, gain)], gain) for offset, period, gain in best], endless)


def least_of(first, second):
    """The least of two integers, where None is none."""
    if first is None or second is None:
        return second if first is None else first
    return min(first, second)


def greater_of(first, second):
    """The greatest of two values, where None is less than all."""
    if first is None or second is None:
        return second if first is None else first
    return first if first > second else second


def raised(growth, number):
    """What tells the values that are greater by a number."""
    firsts, stairs, endless = growth
    return ([None if value is None else value + number for value in firsts],
            [(offset, period, value + number, gain) for offset, period, value, gain in stairs], endless)
