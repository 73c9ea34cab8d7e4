"""Bounds that are told by anyone, and whether they are such.

A bound is at a place: the number of a head times how many nodes or heads there are, plus the index of a node or the
number of a head. The places at which a level has bounds, in its order, are its shape; most levels have the same.
"""

from safeupto.memory import keep


def is_bound(value):
    """Whether the value is a bound: an integer or "endless"."""
    if isinstance(value, int):
        return value is not True and value is not False
    return isinstance(value, str) and value == "endless"


def is_least(bound, first, second):
    """Whether a bound is there and at least the sum of a bound and a bound or a weight."""
    if bound is None or bound == "endless":
        return bound is not None
    return first != "endless" and second != "endless" and bound >= first + second


def pairs_in(shape, many):
    """The list of the places (first, second, both) of two walks, one behind the other, that are there in a shape."""
    lasts = [[] for _ in range(many)]
    for place in shape:
        lasts[place // many].append(place % many)
    return [(place, place % many * many + last, place // many * many + last)
            for place in shape for last in lasts[place % many]]


def are_bounds(values):
    """Whether each of these values is a bound."""
    for value in values:
        if not isinstance(value, int) or value is True or value is False:
            if not is_bound(value):
                return False
    return True


def told_by(table, places):
    """What a dict from keys of places to bounds tells: its shape, its bounds, and whether all of them are integers.

    None if it is no such dict.
    """
    if not isinstance(table, dict):
        return None
    try:
        shape = tuple([places[key] for key in table])
    except KeyError:
        return None
    bounds = list(table.values())
    odd = [bound for bound in bounds if not isinstance(bound, int) or bound is True or bound is False]
    if len(odd) == 0:
        return shape, bounds, True
    return (shape, bounds, False) if are_bounds(odd) else None


class Inspector:
    """Looks whether bounds are such for the heads of a net."""

    def __init__(self, net, heads):
        nodes = net.nodes()
        spots = [nodes[head] for head in heads]
        self._moves = net.moves
        self._exits = net.exits
        self._heads = heads
        self._numbers = {head: at for at, head in enumerate(heads)}
        self._keys = [[(head, node) for node in nodes] for head in spots]
        self._places = {key: place for place, key in enumerate([(head, other) for head in spots for other in spots])}
        self._starts = {self._numbers[at]: net.entries[at] for at in net.entries}
        # What was found out about shapes.
        self._ways = {}
        self._sums = {}

    def accepts(self, limit, most, value):
        """Whether the value is bounds for the count most with which the values at the ends are at most the limit."""
        if not isinstance(value, tuple) or len(value) != 2 or not isinstance(value[1], list):
            return False
        if len(value[1]) != most.bit_length():
            return False
        rows, levels = self._rows(value[0]), [told_by(level, self._places) for level in value[1]]
        if rows is None or None in levels:
            return False
        first = {place: bound for place, bound in zip(levels[0][0], levels[0][1])} if most > 0 else None
        return (self._begin_well(rows, first) and self._double_well(levels)
                and self._end_well(rows, levels, most, limit))

    def _rows(self, table):
        """For each head the list of the bounds to all nodes, None where there is none; None if it is no such dict."""
        if not isinstance(table, dict):
            return None
        rows = [[table.get(key) for key in keys] for keys in self._keys]
        told = [bound for row in rows for bound in row if bound is not None]
        return rows if len(told) == len(table) and are_bounds(told) else None

    def _begin_well(self, rows, first):
        """Whether the bounds in zero and in the first level, if there is one, are great enough for single steps."""
        width, moves, numbers = len(self._heads), self._moves, self._numbers
        for at, head in enumerate(self._heads):
            row = rows[at]
            if not is_least(row[head], 0, 0) or first is not None and not is_least(first.get(at * width + at), 0, 0):
                return False
            for source, _, target, weight, counted in moves:
                ahead = row[source]
                if ahead is not None and (counted == 0 or first is not None):
                    bound = row[target] if counted == 0 else first.get(at * width + numbers[target])
                    if bound is None or bound != "endless" and (ahead == "endless" or bound < ahead + weight):
                        return False
        return True

    def _double_well(self, levels):
        """Whether the bounds in each level but the first are great enough for two walks of the one before."""
        known = self._sums
        for (shape, bounds, is_plain), (other, greater, are_plain) in zip(levels, levels[1:]):
            key = (shape, other)
            if key not in known:
                keep(known, key, sums_in(shape, other, len(self._heads)))
            sums = known[key]
            if sums is None:
                return False
            # Among integers alone one comparison is enough.
            if is_plain and are_plain:
                if any([greater[both] < bounds[first] + bounds[second] for first, second, both in sums]):
                    return False
            elif not all([is_least(greater[both], bounds[first], bounds[second]) for first, second, both in sums]):
                return False
        return True

    def _end_well(self, rows, levels, most, limit):
        """Whether the values at the ends are at most the limit if one goes along these bounds."""
        width, known, values = len(self._heads), self._ways, self._starts
        for digit, (shape, bounds, _) in enumerate(levels):
            if most >> digit & 1 == 1:
                if shape not in known:
                    keep(known, shape, [(place // width, place % width) for place in shape])
                values = gone_along(values, known[shape], bounds)
        for at, value in values.items():
            for last in self._exits:
                bound = rows[at][last]
                if bound is not None and (value == "endless" or bound == "endless" or value + bound > limit):
                    return False
        return True


def sums_in(shape, other, many):
    """The list of the indices of the bounds of two walks, one behind the other, in a shape, and of both in another one.

    None if one is missing there.
    """
    at, then = {place: index for index, place in enumerate(shape)}, {place: index for index, place in enumerate(other)}
    pairs = pairs_in(shape, many)
    found = [(at[first], at[second], then[both]) for first, second, both in pairs if both in then]
    return found if len(found) == len(pairs) else None


def gone_along(values, ways, bounds):
    """The dict of the greatest sums of a value and a bound by where they lead; ways tells from where and to where."""
    found = {}
    for (at, last), bound in zip(ways, bounds):
        if at in values:
            value = values[at]
            if value == "endless" or bound == "endless":
                found[last] = "endless"
            elif last not in found or found[last] != "endless" and found[last] < value + bound:
                found[last] = value + bound
    return found
