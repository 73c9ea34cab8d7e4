"""Sizes for all numbers of a parameter.

The value of a walk is V + B * p, where p is the parameter and B, how often it is added, is not negative. To find for a
number of the parameter the greatest V + B * p, and the least B with which it is reached, one looks for the greatest
(V + B * p) * FACTOR - B: FACTOR is greater than any B.
"""

from safeupto.growths import first_above, joined, raised, value_at
from safeupto.reckoning import Reckoning
from safeupto.rings import totals

FACTOR = 10 ** 60


def told_by(worth):
    """The tuple (value, how often the parameter is added) of a worth."""
    value = -(-worth // FACTOR)
    return value, value * FACTOR - worth


def whole_of(reckoning):
    """How the greatest worths grow, each gain being that of a ring."""
    whole = None
    for at, start in reckoning.begins():
        tails, endless = reckoning.tails(), reckoning.hops.least_endless(at)
        growth = tails.staged_growth(at) if endless is None else (tails.early(at, endless), [], endless)
        growth = raised(growth, start * FACTOR)
        whole = growth if whole is None else joined(whole, growth)
    return whole


class Family:
    """The walks of a net for all numbers of a parameter; other is the net for the number behind the least one."""

    def __init__(self, net, other, heads, least, most):
        self._net = net
        self._most = most
        self._heads = heads
        self._least = least
        self._uses = [second[3] - first[3] for first, second in zip(net.moves, other.moves)]

    def piece(self, low, high):
        """The size from a number on: a count, None or -1, and the last number up to high with this size."""
        growth = whole_of(self._reckoning(low))
        found = first_above(growth, self._most * FACTOR)
        size = None if found is None else found - 1
        if size == -1:
            # The values never become less as the parameter grows.
            return size, high
        last = high if size is None else min(high, self._guess(low, growth, size, high))
        while last > low:
            excess = self._excess(last, size)
            if excess is None:
                return size, last
            # The walk that is too great at last is so from the number on at which it begins to be.
            value, uses = told_by(excess)
            last = last - (value + uses - 1) // uses
        return size, low

    def _reckoning(self, number):
        """What is known with this number; the weights tell, too, how often it is added."""
        moves = [(source, edge, target, (weight + uses * (number - self._least)) * FACTOR - uses, counted)
                 for (source, edge, target, weight, counted), uses in zip(self._net.moves, self._uses)]
        return Reckoning(self._net, self._heads, moves)

    def _guess(self, low, growth, size, high):
        """A number that the size does not last beyond, told by a walk that is the greatest one at low."""
        worth = value_at(growth, size)
        if worth is None:
            return high
        value, uses = told_by(worth)
        return high if uses == 0 else low + (self._most - value) // uses

    def _excess(self, number, size):
        """By how much a walk with at most this count is too great with this number; None if none is."""
        reckoning = self._reckoning(number)
        firsts, stairs, endless = whole_of(reckoning)
        if endless is not None and (size is None or endless <= size):
            return self._ring_gain(reckoning, endless)
        if size is not None:
            worths = [value_at((firsts, stairs, endless), size)]
        else:
            gains = [gain for _, _, _, gain in stairs if gain > 0]
            if len(gains) > 0:
                return gains[0]
            worths = firsts + [value for _, _, value, _ in stairs]
        most = max([worth for worth in worths if worth is not None], default=None)
        return None if most is None or most <= self._most * FACTOR else most - self._most * FACTOR

    def _ring_gain(self, reckoning, endless):
        """What a ring gains that counts nothing and that one comes to with such a count."""
        hops = reckoning.hops
        for at, _ in reckoning.begins():
            if hops.least_endless(at) == endless:
                _, node = hops.to_ring(at)
                return totals(hops.moves, hops.rings[node])[0]
        return None
