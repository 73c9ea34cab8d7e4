"""Two sizes at once."""

from safeupto.conditions import is_size
from safeupto.errors import InvalidNumber, InvalidSize
from safeupto.grounds import Net
from safeupto.growths import first_above
from safeupto.hops import Hops
from safeupto.kinds import is_within
from safeupto.limits import Limit
from safeupto.nets import ground_with, heads_of
from safeupto.tails import Tails

MOST_FIRST = 8
MOST_HEADS = 12


def staircase(program, condition, first, second, most):
    """The list of the Limits of the second size, for each count of the first size from 0 to most."""
    ground = ground_with(program, condition)
    for size in (first, second):
        if not is_size(program, size):
            raise InvalidSize(size)
    if not is_within(most, 0, MOST_FIRST):
        raise InvalidNumber(most)
    ones, others = ground.counts_for(first), ground.counts_for(second)
    # No point at which something is counted by either size is merged.
    net = Net(ground, ground.ends_of(condition), [one | other for one, other in zip(ones, others)], True)
    heads_of(net, MOST_HEADS)
    heads = sorted(set([*net.entries, *[target for _, edge, target, _, _ in net.moves if others[edge] == 1]]))
    many = net.many
    # A node stands once for each number of edges that the first size may still count.
    hops = Hops(many * (most + 1), layered(net, ones, others, most),
                [head + many * layer for layer in range(most + 1) for head in heads],
                [last + many * layer for layer in range(most + 1) for last in net.exits])
    tails = Tails(hops.all_hops(), hops.last_sums(), len(heads))
    return [limit_from(net, hops, tails, heads, layer, condition[3]) for layer in range(most + 1)]


def layered(net, ones, others, most):
    """The moves of a net in each layer; what the first size counts leads to the layer below."""
    many = net.many
    return [(source + many * layer, edge, target + many * (layer - ones[edge]), weight, others[edge])
            for layer in range(most + 1)
            for source, edge, target, weight, _ in net.moves if ones[edge] <= layer]


def limit_from(net, hops, tails, heads, layer, most):
    """The Limit of walks from the beginning nodes in a layer."""
    found = Limit(None)
    for at, head in enumerate(heads):
        if head in net.entries:
            place = layer * len(heads) + at
            count = first_above(tails.growth(place, hops.least_endless(place)), most - net.entries[head])
            found = found & Limit(None if count is None else count - 1)
    return found
