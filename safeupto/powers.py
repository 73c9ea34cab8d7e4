"""Bounds for walks with many counted steps, made by joining walks of half as many."""

# Greater than each sum of a walk, also if anything that a walk can have is taken from it.
ENDLESS = 1 << 1000


def bound_of(worth):
    """The bound that a worth stands for."""
    return "endless" if worth + worth > ENDLESS else worth


def bounds_for(reckoning, most):
    """The tuple (zero, levels) of the least bounds for a count."""
    net, hops = reckoning.net, reckoning.hops
    nodes, twos, reaches = [net.node(head) for head in reckoning.heads], net.ground.twos, reaches_with_rings(hops)
    zero = {}
    for point, code in net.all_places():
        node = (point, *twos[code])
        for at, worth in reaches[net.at(point, code)].items():
            zero[(nodes[at], node)] = bound_of(worth)
    levels, rows = [], first_rows(hops, reaches)
    while len(levels) < most.bit_length():
        levels.append({(node, nodes[at]): bound_of(row[at]) for node, row in zip(nodes, rows) for at in row})
        if len(levels) < most.bit_length():
            rows = [joined_row(row, rows) for row in rows]
    return zero, levels


def reaches_with_rings(hops):
    """For each node the dict from heads, by their places, to the greatest sums of walks that count nothing."""
    if len(hops.rings) == 0:
        return hops.reaches
    found, outs = [dict(table) for table in hops.reaches], outs_uncounted(hops)
    for at, head in enumerate(hops.heads):
        reached = come_to(outs, [head])
        for node, mark in enumerate(come_to(outs, [node for node in hops.rings if reached[node]])):
            if mark:
                found[node][at] = ENDLESS
    return found


def outs_uncounted(hops):
    """The list of the lists of the nodes to which moves that are not counted lead from each node."""
    outs = [[] for _ in range(hops.many)]
    for source, _, target, _, counted in hops.moves:
        if counted == 0:
            outs[source].append(target)
    return outs


def come_to(outs, seeds):
    """The list that tells which nodes one comes to from these, themselves included."""
    marks = [False] * len(outs)
    for seed in seeds:
        marks[seed] = True
    waiting = list(seeds)
    while len(waiting) > 0:
        for target in outs[waiting.pop()]:
            if not marks[target]:
                marks[target] = True
                waiting.append(target)
    return marks


def first_rows(hops, reaches):
    """For each head the dict from heads to the greatest sums of walks with at most one counted step."""
    rows = [{at: 0} for at in range(len(hops.heads))]
    for source, target, weight, _ in hops.counted:
        for at, reach in reaches[source].items():
            row, worth = rows[at], reach + weight
            if target not in row or row[target] < worth:
                row[target] = worth
    return rows


def joined_row(row, rows):
    """The greatest sums of a walk told by a row and one told by the rows, from where it ended."""
    found = {}
    for middle, worth in row.items():
        for last, more in rows[middle].items():
            both = worth + more
            if last not in found or found[last] < both:
                # What is endless stays as it is, and does not become greater and greater.
                found[last] = ENDLESS if both + both > ENDLESS else both
    return found
