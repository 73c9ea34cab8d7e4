"""Greatest sums of walks between a few nodes, count by count."""

from safeupto.hops import backward
from safeupto.rings import gaining_rings, settle


class Layers:
    """The greatest sums of walks to the end nodes of a net for the first counts."""

    def __init__(self, net):
        self._many = net.many
        self._exits = net.exits
        rings, self._outs = gaining_rings(net.many, net.moves)
        self._counted = [(source, target, weight) for source, _, target, weight, counted in net.moves
                         if counted == 1 and source not in rings and target not in rings]
        # From a node of such a ring on a walk is as great as one likes, so only its least count is of interest.
        self._far = [endless_counts(net.many, net.moves, rings, last) for last in net.exits]

    def rows_from(self, first, most):
        """The dict from end nodes to the tuples of the greatest sums of walks from a node for the counts up to most."""
        if first is None:
            return {last: (None,) * (most + 1) for last in self._exits}
        worths = [None] * self._many
        worths[first] = 0
        settle(self._outs, worths)
        vectors = [worths]
        while len(vectors) <= most:
            worths = self._with_one_more(worths)
            if worths == vectors[-1]:
                vectors.extend([worths] * (most + 1 - len(vectors)))
            else:
                vectors.append(worths)
        rows = {}
        for last, far in zip(self._exits, self._far):
            rows[last] = tuple(["endless" if far[first] is not None and far[first] <= count else vector[last]
                                for count, vector in enumerate(vectors)])
        return rows

    def _with_one_more(self, worths):
        """The greatest sums with one counted move more than those that these worths are for."""
        found = list(worths)
        for source, target, weight in self._counted:
            worth = worths[source]
            if worth is not None and (found[target] is None or found[target] < worth + weight):
                found[target] = worth + weight
        settle(self._outs, found)
        return found


def endless_counts(many, moves, rings, last):
    """The least counts with which one comes from each node through one of rings to a last one; None where never."""
    if len(rings) == 0:
        return [None] * many
    near, _ = backward(many, moves, {last: 0})
    far, _ = backward(many, moves, {at: near[at] for at in rings if near[at] is not None})
    return far
