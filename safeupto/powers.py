"""Bounds for walks with many counted steps, made by joining walks of half as many."""

from safeupto.vectors import LEAST, is_there


def product(first, second):
    """The greatest sums of a walk told by the first matrix and one told by the second, from where it ended."""
    columns = list(zip(*second))
    return [[max([one + other for one, other in zip(row, column)]) for column in columns] for row in first]


def product_of_marks(here, endless):
    """From where walks are endless that are two behind each other, told by what is there and what is endless."""
    return [[any([(one and far) or (gone and known) for one, gone, far, known in zip(row, marks, column, others)])
             for column, others in zip(list(zip(*endless)), list(zip(*here)))]
            for row, marks in zip(here, endless)]


def bounds_for(reckoning, most):
    """The tuple (zero, levels) of the least bounds for a count."""
    net, heads, hops = reckoning.net, reckoning.heads, reckoning.hops
    nodes = [net.node(head) for head in heads]
    far = [endless_from(hops, head) for head in heads]
    zero, pairs = {}, net.ground.twos
    places = [((point, *pairs[code]), net.at(point, code)) for point, code in net.all_places()]
    for at, head in enumerate(nodes):
        for node, index in places:
            if far[at][index]:
                zero[(head, node)] = "endless"
            elif at in hops.reaches[index]:
                zero[(head, node)] = hops.reaches[index][at]
    finite, endless = first_level(hops, far)
    levels = []
    while len(levels) < most.bit_length():
        levels.append(level_of(nodes, finite, endless))
        if len(levels) < most.bit_length():
            if any([any(marks) for marks in endless]):
                here = [[mark or is_there(worth) for mark, worth in zip(marks, row)]
                        for marks, row in zip(endless, finite)]
                endless = product_of_marks(here, endless)
            finite = product(finite, finite)
    return zero, levels


def endless_from(hops, head):
    """The list that tells to which nodes walks from a head that count nothing are endless."""
    marks = [False] * hops.many
    if len(hops.rings) > 0:
        outs = outs_uncounted(hops)
        reached = come_to(outs, [head])
        marks = come_to(outs, [node for node in hops.rings if reached[node]])
    return marks


def outs_uncounted(hops):
    """The list of the lists of the nodes to which moves that are not counted lead from each node."""
    outs = [[] for _ in range(hops.many)]
    for source, _, target, _, counted in hops.moves:
        if counted == 0:
            outs[source].append(target)
    return outs


def come_to(outs, seeds):
    """The list that tells which nodes one comes to from these, themselves included."""
    marks = [False] * len(outs)
    for seed in seeds:
        marks[seed] = True
    waiting = list(seeds)
    while len(waiting) > 0:
        for target in outs[waiting.pop()]:
            if not marks[target]:
                marks[target] = True
                waiting.append(target)
    return marks


def first_level(hops, far):
    """The greatest sums from head to head with at most one counted step, and where they are endless."""
    heads = hops.heads
    finite = [[0 if first == second else LEAST for second in heads] for first in heads]
    endless = [[False for _ in heads] for _ in heads]
    for source, target, weight, _ in hops.counted:
        for at, marks in enumerate(far):
            if marks[source]:
                endless[at][target] = True
            elif at in hops.reaches[source]:
                finite[at][target] = max(finite[at][target], hops.reaches[source][at] + weight)
    return finite, endless


def level_of(nodes, finite, endless):
    """The bounds of a level, a dict from tuples of two heads."""
    found = {}
    for at, node in enumerate(nodes):
        for index, other in enumerate(nodes):
            if endless[at][index]:
                found[(node, other)] = "endless"
            elif is_there(finite[at][index]):
                found[(node, other)] = finite[at][index]
    return found
