"""Formulas: the greatest values for all counts, and the greatest counts for all bounds."""

from safeupto.errors import InvalidNumber, InvalidPaper
from safeupto.growths import first_above, joined, raised, value_at
from safeupto.kinds import is_integer
from safeupto.limits import Limit
from safeupto.nets import net_for
from safeupto.reckoning import reckoning_of

MOST_FORMULA_HEADS = 12


def are_firsts(value):
    """Whether the value is a list of integers and None."""
    return isinstance(value, list) and all([one is None or is_integer(one) for one in value])


def are_stairs(value):
    """Whether the value is a list of stairs."""
    return isinstance(value, list) and all([is_stair(one) for one in value])


def is_stair(value):
    """Whether the value is a tuple (offset, period, value, gain)."""
    if not isinstance(value, tuple) or len(value) != 4 or not all([is_integer(one) for one in value]):
        return False
    offset, period, _, gain = value
    return 0 <= offset < period and gain >= 0


def is_count(value):
    """Whether the value is a count."""
    return is_integer(value) and value >= 0


class Formula:
    """The greatest values for all counts; it never changes."""

    def __init__(self, firsts, stairs, endless):
        if not are_firsts(firsts) or not are_stairs(stairs) or not (endless is None or is_count(endless)):
            raise InvalidPaper((firsts, stairs, endless))
        self._firsts = list(firsts)
        self._stairs = sorted(stairs)
        self._endless = endless

    @property
    def firsts(self):
        """The list of the values for the first counts."""
        return list(self._firsts)

    @property
    def stairs(self):
        """The sorted list of the stairs (offset, period, value, gain)."""
        return list(self._stairs)

    @property
    def endless(self):
        """The first count from which on the value is endless, or None."""
        return self._endless

    def greatest(self, count):
        """The greatest value for a count: an integer, None or "endless"."""
        if not is_count(count):
            raise InvalidNumber(count)
        return value_at(self._growth(), count)

    def __call__(self, most):
        """The Limit up to which the values are at most most."""
        if not is_integer(most):
            raise InvalidNumber(most)
        found = first_above(self._growth(), most)
        return Limit(None if found is None else found - 1)

    def __or__(self, other):
        return formula_of(joined(self._growth(), (other._firsts, other._stairs, other._endless)))

    def __add__(self, other):
        return formula_of(raised(self._growth(), other))

    def _growth(self):
        return (self._firsts, self._stairs, self._endless)


def formula_of(growth):
    """The formula that tells the same as firsts, stairs and endless, which are known to be right."""
    firsts, stairs, endless = growth
    found = Formula([], [], endless)
    found._firsts = list(firsts)
    found._stairs = sorted(stairs)
    return found


def formula(program, condition, size):
    """The formula of the greatest values of a condition."""
    return formula_of(reckoning_of(net_for(program, condition, size), MOST_FORMULA_HEADS).whole())
