"""Greatest values for all counts, told by tuples (firsts, stairs, endless) as formulas have them."""


def value_at(growth, count):
    """The greatest value for a count: an integer, None or "endless"."""
    firsts, stairs, endless = growth
    if endless is not None and count >= endless:
        return "endless"
    if count < len(firsts):
        return firsts[count]
    return max([value + gain * (count // period) for offset, period, value, gain in stairs
                if count % period == offset], default=None)


def first_above(growth, most):
    """The first count for which the value is greater than most; None if there is none."""
    firsts, stairs, endless = growth
    for count, value in enumerate(firsts):
        if endless is not None and count >= endless:
            return endless
        if value is not None and value > most:
            return count
    found = [first_on(stair, len(firsts), most) for stair in stairs]
    return min([count for count in [endless, *found] if count is not None], default=None)


def first_on(stair, least, most):
    """The first count, from least on, for which a stair is greater than most; None if there is none."""
    offset, period, value, gain = stair
    rounds = max(0, (least - offset + period - 1) // period)
    if value + gain * rounds <= most:
        if gain == 0:
            return None
        rounds = (most - value) // gain + 1
    return rounds * period + offset


def joined(first, second):
    """What tells the greatest of both values."""
    many = max(len(first[0]), len(second[0]))
    endless = least_of(first[2], second[2])
    firsts = [greater_of(value_at(first, count), value_at(second, count)) for count in range(many)
              if endless is None or count < endless]
    best = {}
    for offset, period, value, gain in [*first[1], *second[1]]:
        known = best.get((offset, period, gain))
        if known is None or known < value:
            best[(offset, period, gain)] = value
    return (firsts, [(offset, period, best[(offset, period, gain)], gain) for offset, period, gain in best], endless)


def least_of(first, second):
    """The least of two counts, where None is none."""
    return min([count for count in (first, second) if count is not None], default=None)


def greater_of(first, second):
    """The greatest of two values, where None is less than all."""
    if first is None or second is None:
        return second if first is None else first
    return max(first, second)


def raised(growth, number):
    """What tells the values that are greater by a number."""
    firsts, stairs, endless = growth
    return ([None if value is None else value + number for value in firsts],
            [(offset, period, value + number, gain) for offset, period, value, gain in stairs], endless)
