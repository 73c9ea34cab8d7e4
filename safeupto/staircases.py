"""Two sizes at once."""

from safeupto.conditions import is_size
from safeupto.errors import InvalidNumber, InvalidSize, TooMany
from safeupto.growths import first_above
from safeupto.hops import Hops
from safeupto.kinds import is_within
from safeupto.limits import Limit
from safeupto.nets import Net, all_heads, counts_for, graph_for
from safeupto.tails import Tails

MOST_FIRST = 8
MOST_HEADS = 12


def staircase(program, condition, first, second, most):
    """The list of the Limits of the second size, for each count of the first size from 0 to most."""
    graph = graph_for(program, condition)
    for size in (first, second):
        if not is_size(program, size):
            raise InvalidSize(size)
    if not is_within(most, 0, MOST_FIRST):
        raise InvalidNumber(most)
    ones = counts_for(graph, first)
    net = Net(program, graph, condition, counts_for(graph, second))
    check_heads(net, ones)
    heads, many = all_heads(net), len(net.spots)
    # A node stands once for each number of edges that the first size may still count.
    hops = Hops(many * (most + 1), layered(net, ones, most),
                [head + many * layer for layer in range(most + 1) for head in heads],
                [last + many * layer for layer in range(most + 1) for last in net.exits])
    tails = Tails(hops.rows, hops.lasts, len(heads))
    return [limit_from(net, hops, tails, heads, layer) for layer in range(most + 1)]


def check_heads(net, ones):
    """Raises TooMany if more than 12 nodes are beginning nodes or come to by edges that are counted at all."""
    counted = [target for _, edge, target, _, counted in net.moves if counted == 1 or ones[edge] == 1]
    if len(set([*net.entries, *counted])) > MOST_HEADS:
        raise TooMany(MOST_HEADS)


def layered(net, ones, most):
    """The moves of a net in each layer; what the first size counts leads to the layer below."""
    many = len(net.spots)
    return [(source + many * layer, edge, target + many * (layer - ones[edge]), weight, counted)
            for layer in range(most + 1)
            for source, edge, target, weight, counted in net.moves if ones[edge] <= layer]


def limit_from(net, hops, tails, heads, layer):
    """The Limit of walks from the beginning nodes in a layer."""
    found = Limit(None)
    for at, head in enumerate(heads):
        if head in net.entries:
            place = layer * len(heads) + at
            count = first_above(tails.growth(place, hops.least_endless(place)), net.most - net.entries[head])
            found = found & Limit(None if count is None else count - 1)
    return found
