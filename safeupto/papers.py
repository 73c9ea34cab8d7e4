"""Papers: heights, with which a condition holds for ever, and bounds, with which it holds up to a count."""

from safeupto.bounding import Inspector
from safeupto.errors import InvalidNumber
from safeupto.kinds import GREATEST, is_within
from safeupto.nets import MOST_HEADS, full_net_for, heads_of, leads_of, plain_net_for
from safeupto.powers import bounds_for
from safeupto.reckoning import reckoning_for
from safeupto.rings import settle
from safeupto.tails import FEW


def heights(program, condition):
    """Heights for a condition, in the order of the nodes; None if it does not hold for ever."""
    net = plain_net_for(program, condition, True)
    worths = greatest_worths(net)
    if worths is None or max([worths[at] for at in net.exits]) > condition[3]:
        return None
    return spread(net, worths)


def greatest_worths(net):
    """The list of the greatest values at the nodes of a net; None if some are endless."""
    worths = [None] * net.many
    for at in net.entries:
        worths[at] = net.entries[at]
    _, rings = settle(leads_of(net), worths)
    return worths if len(rings) == 0 else None


def heights_on(net):
    """Heights for a condition with this merged net that holds for ever, in the order of the nodes."""
    return spread(net, greatest_worths(net))


def spread(net, worths):
    """The dict from all nodes that matter, in their order, to the worths of a merged net."""
    return {node: worth for node, worth in net.at_all_nodes(worths)}


def is_heights(program, condition, value):
    """Whether the value is heights for a condition."""
    net = plain_net_for(program, condition, False)
    worths = worths_told(net, value)
    return worths is not None and are_kept(net, worths, 0, 1) and max([worths[at] for at in net.exits]) <= condition[3]


def worths_told(net, value):
    """The list of the integers of a dict from exactly the nodes that matter; None if it is no such dict."""
    if not isinstance(value, dict) or len(value) != net.many:
        return None
    try:
        worths = [value[node] for node in net.nodes()]
    except KeyError:
        return None
    for worth in worths:
        if not isinstance(worth, int) or worth is True or worth is False:
            return None
    return worths


def are_kept(net, worths, p, q):
    """Whether no start times q, and no move with q times its weight, minus p if it is counted, raises the worths."""
    if any([worths[at] < q * net.entries[at] for at in net.entries]):
        return False
    return are_settled(net, worths, p, q)


def are_settled(net, worths, p, q):
    """Whether no move with q times its weight, minus p if it is counted, raises the worths."""
    return all([worths[source] + q * weight - p * counted <= worths[target]
                for source, _, target, weight, counted in net.moves])


def bounds(program, condition, size, most):
    """Bounds for a count, in the order of the tuples of nodes; None if the condition does not hold up to it."""
    reckoning = reckoning_for(program, condition, size)
    if not is_within(most, 0, GREATEST):
        raise InvalidNumber(most)
    if most < FEW:
        # The value is found along the bounds themselves.
        return bounds_for(reckoning, most, condition[3])
    value = reckoning.value_for(most)
    if value == "endless" or (value is not None and value > condition[3]):
        return None
    return bounds_for(reckoning, most, None)


def is_bounds(program, condition, size, most, value):
    """Whether the value is bounds for a count."""
    net = full_net_for(program, condition, size)
    heads = heads_of(net, MOST_HEADS)
    if not is_within(most, 0, GREATEST):
        raise InvalidNumber(most)
    if "inspector" not in net.known:
        net.known["inspector"] = Inspector(net, heads)
    return net.known["inspector"].accepts(condition[3], most, value)
