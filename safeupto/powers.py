"""Bounds for walks with many counted steps, made by joining walks of half as many.

Bounds between heads are dicts from places to sums: a place is the number of a head times how many heads there are, plus
the number of another one.
"""

from safeupto.bounding import pairs_in
from safeupto.vectors import LEAST

# Greater than each sum of a walk, also if anything that a walk can have is taken from it.
ENDLESS = 1 << 1000


def bounds_for(reckoning, most, limit):
    """The tuple (zero, levels) of the least bounds for a count; None if values at the ends are greater than the limit.

    If the limit is None, no value is.
    """
    net, hops, many = reckoning.net, reckoning.hops, len(reckoning.heads)
    reaches = reaches_with_rings(hops)
    levels = levels_from(first_level(hops, reaches), many, most.bit_length())
    if limit is not None and greatest_along(reckoning, reaches, levels, most) > limit:
        return None
    heads = [net.node(head) for head in reckoning.heads]
    pairs = [(head, other) for head in heads for other in heads]
    zero = zero_bounds(net, heads, reaches)
    levels = [{pairs[place]: level[place] for place in level} for level in levels]
    if len(hops.rings) == 0:
        return zero, levels
    return with_endless(zero), [with_endless(level) for level in levels]


def greatest_along(reckoning, reaches, levels, most):
    """The greatest value at the ends for a count, if one goes along these bounds; LEAST if there is none."""
    values, many = {at: start for at, start in reckoning.begins()}, len(reckoning.heads)
    for digit, level in enumerate(levels):
        if most >> digit & 1 == 1:
            found = {}
            for place in level:
                at, last = place // many, place % many
                if at in values and (last not in found or found[last] < values[at] + level[place]):
                    found[last] = values[at] + level[place]
            values = found
    worth = LEAST
    for last in reckoning.hops.exits:
        for at, reach in reaches[last].items():
            if at in values and values[at] + reach > worth:
                worth = values[at] + reach
    return worth


def zero_bounds(net, heads, reaches):
    """The dict from tuples (head, node), in their order, to the greatest sums of walks that count nothing."""
    rows = net.at_all_nodes(reaches)
    return {(head, node): reach[at] for at, head in enumerate(heads) for node, reach in rows if at in reach}


def with_endless(bounds):
    """The bounds, with "endless" for those that are greater than each sum of a walk."""
    return {key: "endless" if worth + worth > ENDLESS else worth for key, worth in bounds.items()}


def reaches_with_rings(hops):
    """For each node the dict from heads, by their places, to the greatest sums of walks that count nothing."""
    if len(hops.rings) == 0:
        return hops.reaches
    found, outs = [dict(table) for table in hops.reaches], outs_uncounted(hops)
    for at, head in enumerate(hops.heads):
        reached = come_to(outs, [head])
        for node, mark in enumerate(come_to(outs, [node for node in hops.rings if reached[node]])):
            if mark:
                found[node][at] = ENDLESS
    return found


def outs_uncounted(hops):
    """The list of the lists of the nodes to which moves that are not counted lead from each node."""
    outs = [[] for _ in range(hops.many)]
    for source, _, target, _, counted in hops.moves:
        if counted == 0:
            outs[source].append(target)
    return outs


def come_to(outs, seeds):
    """The list that tells which nodes one comes to from these, themselves included."""
    marks = [False] * len(outs)
    for seed in seeds:
        marks[seed] = True
    waiting = list(seeds)
    while len(waiting) > 0:
        for target in outs[waiting.pop()]:
            if not marks[target]:
                marks[target] = True
                waiting.append(target)
    return marks


def first_level(hops, reaches):
    """The greatest sums of walks from head to head with at most one counted step."""
    many = len(hops.heads)
    found = {at * many + at: 0 for at in range(many)}
    for source, target, weight, _ in hops.counted:
        reach = reaches[source]
        for at in reach:
            place, worth = at * many + target, reach[at] + weight
            if place not in found or found[place] < worth:
                found[place] = worth
    return found


def levels_from(level, many, length):
    """The list of so many levels with places in their order, each with the sums of two walks of the one before."""
    found, pairs, size = [], [], 0
    while len(found) < length:
        if len(found) > 0:
            level = doubled(level, pairs)
        if len(level) > size:
            # Later levels have at least the places of earlier ones.
            level = {place: level[place] for place in sorted(level)}
            pairs, size = pairs_in(level, many), len(level)
        found.append(level)
    return found


def doubled(level, pairs):
    """The greatest sums of two walks of a level, one behind the other, at these places."""
    found = dict(level)
    for first, second, both in pairs:
        worth = level[first] + level[second]
        if both not in found or found[both] < worth:
            found[both] = worth
    return found
