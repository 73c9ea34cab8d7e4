"""Bounds that are told by anyone, and whether they are such."""

from safeupto.kinds import is_integer


def is_bound(value):
    """Whether the value is a bound: an integer or "endless"."""
    return is_integer(value) or (isinstance(value, str) and value == "endless")


def is_least(bound, first, second):
    """Whether a bound is there and at least the sum of a bound and a bound or a weight."""
    if bound is None or bound == "endless":
        return bound is not None
    return first != "endless" and second != "endless" and bound >= first + second


class Inspector:
    """Looks whether bounds are such for the heads of a net."""

    def __init__(self, net, heads, most):
        self._net = net
        self._heads = heads
        self._most = most
        self._nodes = net.nodes()
        self._spots = [self._nodes[head] for head in heads]
        self._places = {head: at for at, head in enumerate(heads)}

    def accepts(self, most, value):
        """Whether the value is bounds for this count with which the condition holds."""
        if not isinstance(value, tuple) or len(value) != 2 or not isinstance(value[1], list):
            return False
        if len(value[1]) != most.bit_length():
            return False
        zero = self._rows(value[0], self._nodes)
        levels = [self._rows(level, self._spots) for level in value[1]]
        if zero is None or None in levels:
            return False
        return self._begin_well(zero, levels) and self._double_well(levels) and self._end_well(zero, levels, most)

    def _rows(self, value, nodes):
        """For each head the list of the bounds to these nodes, None where there is none; None if it is no such dict."""
        if not isinstance(value, dict):
            return None
        rows = [[value.get((head, node)) for node in nodes] for head in self._spots]
        told = [bound for row in rows for bound in row if bound is not None]
        if len(told) != len(value) or not all([is_bound(bound) for bound in told]):
            return None
        return rows

    def _begin_well(self, zero, levels):
        """Whether the bounds in zero and in the first level are great enough for single steps."""
        for at, head in enumerate(self._heads):
            if not is_least(zero[at][head], 0, 0):
                return False
            if len(levels) > 0 and not is_least(levels[0][at][at], 0, 0):
                return False
            for source, _, target, weight, counted in self._net.moves:
                bound = zero[at][source]
                if bound is not None:
                    if counted == 0 and not is_least(zero[at][target], bound, weight):
                        return False
                    if counted == 1 and len(levels) > 0:
                        if not is_least(levels[0][at][self._places[target]], bound, weight):
                            return False
        return True

    def _double_well(self, levels):
        """Whether the bounds in each level but the first are great enough for two walks of the one before."""
        for level, other in zip(levels, levels[1:]):
            for row, found in zip(level, other):
                for first, following in zip(row, level):
                    if first is not None:
                        for second, bound in zip(following, found):
                            if second is not None and not is_least(bound, first, second):
                                return False
        return True

    def _end_well(self, zero, levels, most):
        """Whether the values are at most the bound of the condition if one goes along these bounds."""
        values = [self._net.entries.get(head) for head in self._heads]
        for digit, level in enumerate(levels):
            if most >> digit & 1 == 1:
                values = [greatest_sum(values, [row[at] for row in level]) for at in range(len(values))]
        ends = [greatest_sum(values, [row[at] for row in zero]) for at in self._net.exits]
        return all([end is None or (end != "endless" and end <= self._most) for end in ends])


def greatest_sum(values, bounds):
    """The greatest of the sums of a value and its bound, None where one is missing."""
    sums = [(value, bound) for value, bound in zip(values, bounds) if value is not None and bound is not None]
    if "endless" in [part for pair in sums for part in pair]:
        return "endless"
    return max([value + bound for value, bound in sums], default=None)
