"""Bounds that are told by anyone, and whether they are such.

A bound is at a place: the number of a head times how many nodes or heads there are, plus the index of a node or the
number of a head. The places at which a level has bounds, in its order, are its shape; most levels have the same.
"""


# For how many shapes it is remembered what was found out about them.
MOST_SHAPES = 16


def is_bound(value):
    """Whether the value is a bound: an integer or "endless"."""
    if isinstance(value, int):
        return value is not True and value is not False
    return isinstance(value, str) and value == "endless"


def is_least(bound, first, second):
    """Whether a bound is there and at least the sum of a bound and a bound or a weight."""
    if bound is None or bound == "endless":
        return bound is not None
    return first != "endless" and second != "endless" and bound >= first + second


def pairs_in(shape, many):
    """The list of the places (first, second, both) of two walks, one behind the other, that are there in a shape."""
    lasts = [[] for _ in range(many)]
    for place in shape:
        lasts[place // many].append(place % many)
    return [(place, place % many * many + last, place // many * many + last)
            for place in shape for last in lasts[place % many]]


def told_by(table, places):
    """What a dict from keys of places to bounds tells: its shape, its bounds, and whether all of them are integers.

    None if it is no such dict.
    """
    if not isinstance(table, dict):
        return None
    try:
        shape = tuple([places[key] for key in table])
    except KeyError:
        return None
    bounds = list(table.values())
    odd = [bound for bound in bounds if not isinstance(bound, int) or bound is True or bound is False]
    if len(odd) == 0:
        return shape, bounds, True
    return (shape, bounds, False) if all([is_bound(bound) for bound in odd]) else None


class Inspector:
    """Looks whether bounds are such for the heads of a net."""

    def __init__(self, net, heads):
        nodes = net.nodes()
        spots = [nodes[head] for head in heads]
        self._heads = heads
        self._many = len(nodes)
        self._places = {key: place for place, key in enumerate([(head, node) for head in spots for node in nodes])}
        self._spots = {key: place for place, key in enumerate([(head, other) for head in spots for other in spots])}
        numbers = {head: at for at, head in enumerate(heads)}
        self._starts = {numbers[at]: net.entries[at] for at in net.entries}
        self._exits = {at: True for at in net.exits}
        # Where steps lead: those that are not counted to nodes, the others to numbers of heads.
        self._leads, self._counted = [[] for _ in nodes], [[] for _ in nodes]
        for source, _, target, weight, counted in net.moves:
            if counted == 0:
                self._leads[source].append((target, weight))
            else:
                self._counted[source].append((numbers[target], weight))
        # What was found out about shapes.
        self._ways = {}
        self._sums = {}

    def accepts(self, limit, most, value):
        """Whether the value is bounds for the count most with which the values at the ends are at most the limit."""
        if not isinstance(value, tuple) or len(value) != 2 or not isinstance(value[1], list):
            return False
        if len(value[1]) != most.bit_length():
            return False
        zero, levels = told_by(value[0], self._places), [told_by(level, self._spots) for level in value[1]]
        if zero is None or None in levels:
            return False
        bounds = {place: bound for place, bound in zip(zero[0], zero[1])}
        first = {place: bound for place, bound in zip(levels[0][0], levels[0][1])} if most > 0 else None
        return (self._begin_well(bounds, first) and self._double_well(levels)
                and self._end_well(bounds, levels, most, limit))

    def _begin_well(self, zero, first):
        """Whether the bounds in zero and in the first level, if there is one, are great enough for single steps."""
        many, width = self._many, len(self._heads)
        for at, head in enumerate(self._heads):
            if not is_least(zero.get(at * many + head), 0, 0):
                return False
            if first is not None and not is_least(first.get(at * width + at), 0, 0):
                return False
        for place, ahead in zero.items():
            node, at = place % many, place // many
            for target, weight in self._leads[node]:
                if not is_least(zero.get(at * many + target), ahead, weight):
                    return False
            if first is not None:
                for target, weight in self._counted[node]:
                    if not is_least(first.get(at * width + target), ahead, weight):
                        return False
        return True

    def _double_well(self, levels):
        """Whether the bounds in each level but the first are great enough for two walks of the one before."""
        known = self._sums
        for (shape, bounds, is_plain), (other, greater, are_plain) in zip(levels, levels[1:]):
            key = (shape, other)
            if key not in known:
                self._keep(known, key, sums_in(shape, other, len(self._heads)))
            sums = known[key]
            if sums is None:
                return False
            if is_plain and are_plain:
                if any([greater[both] < bounds[first] + bounds[second] for first, second, both in sums]):
                    return False
            elif not all([is_least(greater[both], bounds[first], bounds[second]) for first, second, both in sums]):
                return False
        return True

    def _end_well(self, zero, levels, most, limit):
        """Whether the values at the ends are at most the limit if one goes along these bounds."""
        many, width, known, values = self._many, len(self._heads), self._ways, self._starts
        for digit, (shape, bounds, _) in enumerate(levels):
            if most >> digit & 1 == 1:
                if shape not in known:
                    self._keep(known, shape, [(place // width, place % width) for place in shape])
                values = gone_along(values, known[shape], bounds)
        places = [place for place in zero if place % many in self._exits]
        ways, bounds = [(place // many, place % many) for place in places], [zero[place] for place in places]
        return all([end != "endless" and end <= limit for end in gone_along(values, ways, bounds).values()])

    def _keep(self, known, key, found):
        """Keeps what was found out about shapes, of which few are kept."""
        if len(known) == MOST_SHAPES:
            known.clear()
        known[key] = found


def sums_in(shape, other, many):
    """The list of the indices of the bounds of two walks, one behind the other, in a shape, and of both in another one.

    None if one is missing there.
    """
    at, then = {place: index for index, place in enumerate(shape)}, {place: index for index, place in enumerate(other)}
    pairs = pairs_in(shape, many)
    found = [(at[first], at[second], then[both]) for first, second, both in pairs if both in then]
    return found if len(found) == len(pairs) else None


def gone_along(values, ways, bounds):
    """The dict of the greatest sums of a value and a bound by where they lead; ways tells from where and to where."""
    found = {}
    for (at, last), bound in zip(ways, bounds):
        if at in values:
            value = values[at]
            if value == "endless" or bound == "endless":
                found[last] = "endless"
            elif last not in found or found[last] != "endless" and found[last] < value + bound:
                found[last] = value + bound
    return found
