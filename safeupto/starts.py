"""Sizes for all ranges of the variables, and for all numbers of a parameter."""

from safeupto.errors import InvalidCondition, InvalidName, InvalidNumber, InvalidProgram, TooMany
from safeupto.formulas import MOST_FORMULA_HEADS, formula_of
from safeupto.kinds import is_name, is_number, is_range
from safeupto.limits import Limit
from safeupto.nets import MOST_HEADS, ground_with, heads_of, net_for, sized_net
from safeupto.parametric import Family
from safeupto.programs import Program, are_values
from safeupto.reckoning import reckoning_of

MOST_PARTS = 100


def are_ranges(value, names):
    """Whether the value is a dict from each of these names to a range."""
    if not isinstance(value, dict) or len(value) != len(names):
        return False
    if not all([is_name(name) and name in names for name in value]):
        return False
    return all([isinstance(pair, tuple) and len(pair) == 2 and is_range(pair[0], pair[1])
                for pair in list(value.values())])


class Starts:
    """The formulas of a condition for all ranges of the variables."""

    def __init__(self, program, condition, size):
        reckoning = reckoning_of(net_for(program, condition, size), MOST_FORMULA_HEADS)
        self._names = program.names
        self._formulas = {}
        for at, _ in reckoning.begins():
            _, plus, minus = reckoning.net.node(reckoning.heads[at])
            self._formulas[(plus, minus)] = formula_of(reckoning.growth(at))

    @property
    def pairs(self):
        """The sorted tuple of the tuples (plus, minus) of the beginning nodes that matter."""
        return tuple(self._formulas)

    def formula(self, pair):
        """The formula of the greatest sums of walks from the beginning node of a pair."""
        if not isinstance(pair, tuple) or len(pair) != 2:
            raise InvalidName(pair)
        if not all([side is None or is_name(side) for side in pair]) or pair not in self._formulas:
            raise InvalidName(pair)
        return self._formulas[pair]

    def __call__(self, ranges, most):
        """The Limit of the condition with this bound, in the program with these ranges."""
        if not are_ranges(ranges, self._names):
            raise InvalidNumber(ranges)
        if not is_number(most):
            raise InvalidNumber(most)
        found = Limit(None)
        for plus, minus in self._formulas:
            growing = self._formulas[(plus, minus)]
            high = 0 if plus is None else ranges[plus][1]
            low = 0 if minus is None else ranges[minus][0]
            found = found & growing(most - high + low)
        return found


def pieces(program, name, values, condition, size):
    """The list of the tuples (low, high, Limit) for the range of a parameter, cut into the fewest parts."""
    if not isinstance(program, Program) or len(program.parameters) == 0:
        raise InvalidProgram(program)
    if not is_name(name) or name not in [one for one, _, _ in program.parameters]:
        raise InvalidName(name)
    if not are_values(values, [row for row in program.parameters if row[0] != name]):
        raise InvalidNumber(values)
    low, high = [(low, high) for one, low, high in program.parameters if one == name][0]
    net = net_with(program, name, values, low, condition, size)
    heads = heads_of(net, MOST_HEADS)
    other = net if low == high else net_with(program, name, values, low + 1, condition, size)
    family = Family(net, other, heads, low, condition[3])
    found = []
    while low <= high:
        if len(found) == MOST_PARTS:
            raise TooMany(MOST_PARTS)
        size_there, last = family.piece(low, high)
        found.append((low, last, Limit(size_there)))
        low = last + 1
    return found


def net_with(program, name, values, number, condition, size):
    """The net of a condition without minus, for the program with this number for the parameter."""
    numbers = {one: values[one] for one in values}
    numbers[name] = number
    given = program.given(numbers)
    ground = ground_with(given, condition)
    if condition[2] is not None:
        raise InvalidCondition(condition)
    return sized_net(given, ground, condition, size)
