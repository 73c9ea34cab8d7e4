"""Greatest sums of walks between a few nodes, count by count."""

from safeupto.hops import backward
from safeupto.rings import gaining_rings, outs_without, settle


class Layers:
    """The greatest sums of walks to the ends of a weave for the first counts."""

    def __init__(self, weave):
        self._many = len(weave.spots)
        self._exits = weave.exits
        rings = gaining_rings(self._many, weave.moves)
        self._outs = outs_without(self._many, weave.moves, rings)
        self._counted = [(source, target, weight) for source, _, target, weight, counted in weave.moves
                         if counted == 1 and source not in rings and target not in rings]
        # From a node of such a ring on a walk is as great as one likes, so only its least count is of interest.
        self._far = [endless_counts(self._many, weave.moves, rings, last) for last in weave.exits]

    def rows_from(self, first, most):
        """For each end the tuple of the greatest sums of walks from a node with at most 0, 1 .. most counted moves."""
        if first is None:
            return [(None,) * (most + 1) for _ in self._exits]
        worths = [None] * self._many
        worths[first] = 0
        settle(self._outs, worths)
        vectors = [worths]
        while len(vectors) <= most:
            worths = self._with_one_more(worths)
            if worths == vectors[-1]:
                vectors.extend([worths] * (most + 1 - len(vectors)))
            else:
                vectors.append(worths)
        rows = []
        for last, far in zip(self._exits, self._far):
            rows.append(tuple(["endless" if far[first] is not None and far[first] <= count else vector[last]
                               for count, vector in enumerate(vectors)]))
        return rows

    def _with_one_more(self, worths):
        """The greatest sums with one counted move more than those that these worths are for."""
        found = list(worths)
        for source, target, weight in self._counted:
            worth = worths[source]
            if worth is not None and (found[target] is None or found[target] < worth + weight):
                found[target] = worth + weight
        settle(self._outs, found)
        return found


def endless_counts(many, moves, rings, last):
    """The least counts with which one comes from each node through one of rings to a last one; None where never."""
    if len(rings) == 0:
        return [None] * many
    near, _ = backward(many, moves, {last: 0})
    far, _ = backward(many, moves, {at: near[at] for at in rings if near[at] is not None})
    return far
