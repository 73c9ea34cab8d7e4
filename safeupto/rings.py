"""Greatest sums of walks along moves, and rings that gain.

A move is a tuple (source, edge, target, weight, counted) as in nets. What leads out is a list with a list
of tuples (target, weight, index of the move) for each source.
"""

from math import gcd


def outs_along(many, moves, p, q):
    """What leads out, for the weights q times the weight, minus p if the move is counted."""
    outs = [[] for _ in range(many)]
    if p == 0 and q == 1:
        for index, (source, _, target, weight, _) in enumerate(moves):
            outs[source].append((target, weight, index))
        return outs
    for index, (source, _, target, weight, counted) in enumerate(moves):
        outs[source].append((target, q * weight - p * counted, index))
    return outs


def outs_without(many, moves, barred):
    """What leads out along moves that are not counted, between nodes that are not keys of barred.

    Moves from a node to itself are left out, unless they gain.
    """
    outs = [[] for _ in range(many)]
    for index, (source, _, target, weight, counted) in enumerate(moves):
        if counted == 0 and (source != target or weight > 0) and source not in barred and target not in barred:
            outs[source].append((target, weight, index))
    return outs


def is_straight(outs):
    """Whether nothing leads to a node from itself or one behind it, so that there are no rings."""
    return not any([target <= source for source, leads in enumerate(outs) for target, _, _ in leads])


def settle(outs, worths):
    """Raises the worths along outs until nothing rises any more, or until rings that gain have formed.

    Returns the list of (source, index of the move) that raised each node last, and the list of these rings,
    which are lists of indices of moves. Where there is no worth, it is None.
    """
    risen = [None] * len(worths)
    # Only what rose since it was gone through is gone through again.
    fresh = [worth is not None for worth in worths]
    raised = raise_once(outs, worths, risen, fresh)
    while len(raised) > 0:
        rings = rings_among(risen, raised)
        if len(rings) > 0:
            return risen, rings
        raised = raise_once(outs, worths, risen, fresh)
    return risen, []


def raise_once(outs, worths, risen, fresh):
    """Raises the worths along each move once, in order; returns the list of the nodes that moves back raised."""
    raised = []
    for source, leads in enumerate(outs):
        if fresh[source]:
            fresh[source] = False
            worth = worths[source]
            for target, weight, index in leads:
                known = worths[target]
                if known is None or known < worth + weight:
                    worths[target] = worth + weight
                    risen[target] = (source, index)
                    fresh[target] = True
                    if target <= source:
                        raised.append(target)
    return raised


def rings_among(risen, raised):
    """The list of the rings in which each node was raised by the one before, found by going back from raised nodes.

    Each of them gains. One that goes on to gain is found soon, as some move of it leads back and raises a node.
    """
    marks = [None] * len(risen)
    rings = []
    for first in raised:
        at, met = first, 0
        while marks[at] is None and risen[at] is not None:
            marks[at] = first
            at, met = risen[at][0], met + 1
        # Whoever was marked in this very round is on a ring.
        if met > 0 and marks[at] == first:
            rings.append(ring_back(risen, at))
    return rings


def ring_back(risen, last):
    """The ring that ends at a node, found by going back from it."""
    source, index = risen[last]
    found = [index]
    while source != last:
        source, index = risen[source]
        found.append(index)
    return found[::-1]


def path_to(risen, at):
    """The list of the indices of the moves by which a node was raised, from where nothing raised it."""
    found = []
    while risen[at] is not None:
        at, index = risen[at]
        found.append(index)
    return found[::-1]


def totals(moves, walk):
    """The sum and the count of a walk, a list of indices of moves."""
    return sum([moves[index][3] for index in walk]), sum([moves[index][4] for index in walk])


def gaining_rings(many, moves):
    """A dict from nodes to rings without counted moves that gain; without these nodes there is no such ring.

    The second thing is what leads out along moves that are not counted, without these nodes.
    """
    found = {}
    while True:
        outs = outs_without(many, moves, found)
        rings = [] if is_straight(outs) else settle(outs, [0] * many)[1]
        if len(rings) == 0:
            return found, outs
        for ring in rings:
            for index in ring:
                found[moves[index][0]] = ring


def best_quotient(many, moves):
    """The greatest quotient (p, q) of sum and count of rings, at least (0, 1), and a ring that has it, or None.

    The third thing are worths that no move raises for this quotient. The quotient is "endless", and there are no
    worths, if a ring that is not counted has a positive sum.
    """
    p, q, best = 0, 1, None
    while True:
        worths = [0] * many
        _, rings = settle(outs_along(many, moves, p, q), worths)
        if len(rings) == 0:
            return (p, q), best, worths
        for ring in rings:
            gain, count = totals(moves, ring)
            if count == 0:
                return "endless", ring, None
            if gain * q > p * count:
                p, q, best = gain // gcd(gain, count), count // gcd(gain, count), ring


def turned(moves, ring, node):
    """The ring, begun at a node of it."""
    at = [moves[index][0] for index in ring].index(node)
    return ring[at:] + ring[:at]
