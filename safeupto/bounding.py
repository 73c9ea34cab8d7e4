"""Bounds that are told by anyone, and whether they are such.

What is told is put into dicts from places to bounds: a place is the number of a head times how many nodes or heads
there are, plus the index of a node or the number of a head.
"""


def is_bound(value):
    """Whether the value is a bound: an integer or "endless"."""
    if isinstance(value, int):
        return value is not True and value is not False
    return isinstance(value, str) and value == "endless"


def is_least(bound, first, second):
    """Whether a bound is there and at least the sum of a bound and a bound or a weight."""
    if bound is None or bound == "endless":
        return bound is not None
    return first != "endless" and second != "endless" and bound >= first + second


def placed(table, places):
    """The dict from places to the bounds of a table; None if it is no dict from keys of places to bounds."""
    if not isinstance(table, dict):
        return None
    try:
        found = {places[key]: bound for key, bound in table.items()}
    except KeyError:
        return None
    odd = [bound for bound in found.values() if not isinstance(bound, int) or bound is True or bound is False]
    if len(found) < len(table) or len(odd) > 0 and not all([is_bound(bound) for bound in odd]):
        return None
    return found


def pairs_in(level, many):
    """The list of the places (first, second, both) of two walks, one behind the other, that are there in a level."""
    lasts = [[] for _ in range(many)]
    for place in level:
        lasts[place // many].append(place % many)
    return [(place, place % many * many + last, place // many * many + last)
            for place in level for last in lasts[place % many]]


def are_doubled(levels, many):
    """Whether the bounds in each level but the first are great enough for two walks of the one before."""
    known = {}
    for level, other in zip(levels, levels[1:]):
        shape = tuple(level)
        if shape not in known:
            known[shape] = pairs_in(level, many)
        for first, second, both in known[shape]:
            if both not in other:
                return False
            bound = other[both]
            if bound != "endless":
                one, more = level[first], level[second]
                if one == "endless" or more == "endless" or bound < one + more:
                    return False
    return True


class Inspector:
    """Looks whether bounds are such for the heads of a net."""

    def __init__(self, net, heads):
        nodes = net.nodes()
        self._net = net
        self._heads = heads
        self._many = len(nodes)
        self._exits = {at: True for at in net.exits}
        self._places = {(nodes[head], node): at * self._many + index for at, head in enumerate(heads)
                        for index, node in enumerate(nodes)}
        self._spots = {(nodes[head], nodes[other]): at * len(heads) + index for at, head in enumerate(heads)
                       for index, other in enumerate(heads)}
        # Where steps lead: those that are not counted to nodes, the others to numbers of heads.
        self._leads, self._counted = [[] for _ in nodes], [[] for _ in nodes]
        numbers = {head: at for at, head in enumerate(heads)}
        for source, _, target, weight, counted in net.moves:
            if counted == 0:
                self._leads[source].append((target, weight))
            else:
                self._counted[source].append((numbers[target], weight))

    def accepts(self, limit, most, value):
        """Whether the value is bounds for the count most with which the values at the ends are at most the limit."""
        if not isinstance(value, tuple) or len(value) != 2 or not isinstance(value[1], list):
            return False
        if len(value[1]) != most.bit_length():
            return False
        zero, levels = placed(value[0], self._places), [placed(level, self._spots) for level in value[1]]
        if zero is None or None in levels:
            return False
        return (self._begin_well(zero, levels[0] if len(levels) > 0 else None)
                and are_doubled(levels, len(self._heads)) and self._end_well(zero, levels, most, limit))

    def _begin_well(self, zero, first):
        """Whether the bounds in zero and in the first level, if there is one, are great enough for single steps."""
        many, width = self._many, len(self._heads)
        for at, head in enumerate(self._heads):
            if not is_least(zero.get(at * many + head), 0, 0):
                return False
            if first is not None and not is_least(first.get(at * width + at), 0, 0):
                return False
        for place, ahead in zero.items():
            node, at = place % many, place // many
            for target, weight in self._leads[node]:
                bound = zero.get(at * many + target)
                if bound is None or bound != "endless" and (ahead == "endless" or bound < ahead + weight):
                    return False
            if first is not None:
                for target, weight in self._counted[node]:
                    if not is_least(first.get(at * width + target), ahead, weight):
                        return False
        return True

    def _end_well(self, zero, levels, most, limit):
        """Whether the values at the ends are at most the limit if one goes along these bounds."""
        many, width = self._many, len(self._heads)
        values = {at: self._net.entries[head] for at, head in enumerate(self._heads) if head in self._net.entries}
        for digit, level in enumerate(levels):
            if most >> digit & 1 == 1:
                values = gone_along(values, level, width)
        ends = gone_along(values, {place: zero[place] for place in zero if place % many in self._exits}, many)
        return all([end != "endless" and end <= limit for end in ends.values()])


def gone_along(values, bounds, width):
    """The dict of the greatest sums of a value, by its number, and a bound from there, by where it leads."""
    found = {}
    for place, bound in bounds.items():
        at, last = place // width, place % width
        if at in values:
            value = values[at]
            if value == "endless" or bound == "endless":
                found[last] = "endless"
            elif last not in found or found[last] != "endless" and found[last] < value + bound:
                found[last] = value + bound
    return found
