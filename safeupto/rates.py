"""Rates: how fast values can grow with the size."""

from math import gcd

from safeupto.kinds import is_integer
from safeupto.nets import full_net_for, net_for
from safeupto.papers import are_settled, spread, worths_told
from safeupto.rings import best_quotient
from safeupto.shortruns import Judge, ring_rule


def found_for(net):
    """The tuple (rate, ring or None, worths or None) of a net; the ring is a list of indices of moves."""
    if "rate" not in net.known:
        net.known["rate"] = best_quotient(net.many, net.moves)
    return net.known["rate"]


def rate(program, condition, size):
    """The rate: a tuple of two integers, or "endless"."""
    return found_for(net_for(program, condition, size))[0]


def best_ring(program, condition, size):
    """A rule with a ring that has the rate; None if it is (0, 1)."""
    net = net_for(program, condition, size)
    _, ring, _ = found_for(net)
    return None if ring is None else ring_rule(net, ring)


def rate_paper(program, condition, size):
    """The rate, a ring that has it, and heights which show that no ring has a greater one."""
    net = net_for(program, condition, size)
    quotient, ring, worths = found_for(net)
    heights = None if worths is None else spread(net, worths)
    return (quotient, None if ring is None else ring_rule(net, ring), heights)


def is_rate(program, condition, size, value):
    """Whether the value is the rate with such a ring and such heights."""
    net = full_net_for(program, condition, size)
    if not isinstance(value, tuple) or len(value) != 3:
        return False
    quotient, ring, heights = value
    if isinstance(quotient, str) and quotient == "endless":
        told = ring_told(net, ring)
        return heights is None and told is not None and told[0] > 0 and told[1] == 0
    if not is_quotient(quotient):
        return False
    p, q = quotient
    if ring is not None or p > 0:
        told = ring_told(net, ring)
        if told is None or told[1] == 0 or told[0] * q != told[1] * p:
            return False
    worths = worths_told(net, heights)
    return worths is not None and are_settled(net, worths, p, q)


def is_quotient(value):
    """Whether the value is a tuple of two integers, not below 0 and positive, without a common factor."""
    if not isinstance(value, tuple) or len(value) != 2 or not is_integer(value[0]) or not is_integer(value[1]):
        return False
    return value[0] >= 0 and value[1] > 0 and gcd(value[0], value[1]) == 1


def ring_told(net, value):
    """The sum and the count of a rule with a ring; None if it is none."""
    told = Judge(net.ground, net.counts, {}).walk(value)
    if told is None:
        return None
    first, last, total, count, steps, _ = told
    if steps == 0 or first != last or not net.has_node(first):
        return None
    return total, count
