"""Lines that values stay below as the size grows, and the corners of the least of them."""

from safeupto.errors import InvalidNumber
from safeupto.kinds import GREATEST, is_integer, is_within
from safeupto.nets import MOST_HEADS, full_net_for, heads_of, net_for
from safeupto.papers import are_kept, spread, worths_told
from safeupto.rates import found_for
from safeupto.reckoning import reckoning_of
from safeupto.rings import outs_along, settle


def is_pair(value):
    """Whether the value is a quotient, a tuple (p, q)."""
    if not isinstance(value, tuple) or len(value) != 2:
        return False
    return is_within(value[0], -GREATEST, GREATEST) and is_within(value[1], 1, GREATEST)


def line_for(net, pair):
    """The list of the least heights along a quotient; None if there are none."""
    p, q = pair
    worths = [None] * net.many
    for at in net.entries:
        worths[at] = q * net.entries[at]
    _, rings = settle(outs_along(net.many, net.moves, p, q), worths)
    return worths if len(rings) == 0 else None


def net_with(program, condition, size, pair):
    """The merged net of a condition; raises its errors, and InvalidNumber unless pair is a quotient."""
    net = net_for(program, condition, size)
    if not is_pair(pair):
        raise InvalidNumber(pair)
    return net


def least_line(program, condition, size, pair):
    """The least addition for a quotient: an integer, None if there are no walks, or "endless"."""
    net = net_with(program, condition, size, pair)
    worths = line_for(net, pair)
    if worths is None:
        return "endless"
    # There are walks to each node that matters, so the addition is never None.
    return max([worths[at] for at in net.exits])


def line_heights(program, condition, size, pair):
    """Heights that show that the least addition is enough; None if it is endless."""
    net = net_with(program, condition, size, pair)
    worths = line_for(net, pair)
    return None if worths is None else spread(net, worths)


def is_line(program, condition, size, pair, most, value):
    """Whether the value is heights that show that the addition most is enough."""
    net = full_net_for(program, condition, size)
    if not is_pair(pair):
        raise InvalidNumber(pair)
    if not is_integer(most):
        raise InvalidNumber(most)
    worths = worths_told(net, value)
    if worths is None or max([worths[at] for at in net.exits]) > most:
        return False
    return are_kept(net, worths, pair[0], pair[1])


def corners(program, condition, size):
    """The sorted list of the counts, with their greatest values, that are best for some quotient above the rate."""
    net = net_for(program, condition, size)
    heads = heads_of(net, MOST_HEADS)
    quotient, _, _ = found_for(net)
    if quotient == "endless":
        return None
    # Above the rate a walk that is best comes to no head twice.
    reckoning = reckoning_of(net, MOST_HEADS)
    points = [(count, reckoning.value_for(count)) for count in range(len(heads))]
    p, q = quotient
    found = []
    for count, value in [(count, value) for count, value in points if value is not None]:
        while len(found) > 1 and is_below(found[-2], found[-1], (count, value)):
            found.pop()
        found.append((count, value))
    return found[:1] + [second for first, second in zip(found, found[1:])
                        if (second[1] - first[1]) * q > p * (second[0] - first[0])]


def is_below(first, second, third):
    """Whether the second point is on the line between the others, or below it."""
    return ((second[1] - first[1]) * (third[0] - first[0])
            <= (third[1] - first[1]) * (second[0] - first[0]))
