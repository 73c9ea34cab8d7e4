"""Greatest sums of walks from heads to end nodes, for every count, in a finite form.

Heads are numbers. With several layers the heads of the first layer are 0 .. width - 1, those of the next one follow,
and so on; what leads from head to head is the same within each layer, and never leads to a later layer.

Most often the sums soon rise in a pattern. Where they do not, the rings in which the sum grows fastest are looked at
first. A long walk that touches such a ring can be turned into a short one that touches it and goes around it often,
with no less sum: of as many rings as this one is long some have a count together that it divides, and going around
this one instead is no loss. Walks that touch none of its heads are looked at next, and so on.
"""

from safeupto.growths import value_at
from safeupto.patterns import pattern_of
from safeupto.rings import best_quotient
from safeupto.vectors import LEAST, extend, is_there, next_head, step_back, trail_in

# Up to here each number of hops is looked at by itself.
SOON = 3
# And so up to here, where just one sum is asked for.
FEW = 8


class Stage:
    """The walks that touch a ring, and none of those of earlier stages."""

    def __init__(self, ring, gain, rows, alls, width):
        self.ring = ring
        self.gain = gain
        self.rows = rows
        self.alls = alls
        self.width = width
        self.touching = [touched(ring, width, alls[0], [LEAST] * len(rows))]
        for vector in alls[1:]:
            self.touching.append(touched(ring, width, vector, step_back(rows, self.touching[-1])))

    def trail(self, at, count):
        """The list of the heads behind this one on a greatest walk with so many hops that touches the ring."""
        found, vectors = [], self.touching
        for left in range(count, 0, -1):
            if at % self.width in self.ring:
                vectors = self.alls
            at = next_head(self.rows[at], vectors[left][at], vectors[left - 1])
            found.append(at)
        return found

    def told_from(self, at):
        """The stairs (offset, period, value, gain) of the walks from a head."""
        period, best = len(self.ring), {}
        for count, vector in enumerate(self.touching):
            worth, offset = vector[at] - self.gain * (count // period), count % period
            if is_there(vector[at]) and (offset not in best or best[offset] < worth):
                best[offset] = worth
        return [(offset, period, best[offset], self.gain) for offset in best]


def touched(ring, width, alls, others):
    """The greatest sums of walks that touch the ring, from its own heads all of them."""
    found = list(others)
    for at in range(len(found)):
        if at % width in ring:
            found[at] = alls[at]
    return found


class Tails:
    """The greatest sums of walks from heads to end nodes, by the number of hops."""

    def __init__(self, rows, lasts, width):
        self.rows = rows
        self.vectors = [[LEAST if last is None else last for last in lasts]]
        self._width = width
        self._layers = len(rows) // width
        self._looked = False
        self._found = None
        self.stages = None
        self._final = None

    def upto(self, count):
        """The list of the vectors for 0, 1 .. hops, at least up to this count."""
        extend(self.vectors, self.rows, count + 1)
        return self.vectors

    def sum_for(self, at, count):
        """The greatest sum from a head for a small count; None if there is no walk."""
        worth = self.upto(count)[count][at]
        return worth if is_there(worth) else None

    def early(self, at, many):
        """The list of the greatest sums from a head for so many counts, None where there is no walk."""
        vectors = self.upto(many)
        return [vector[at] if is_there(vector[at]) else None for vector in vectors[:many]]

    def pattern(self):
        """The pattern in which the sums rise, or None if it does not begin soon."""
        if not self._looked:
            self._looked = True
            self._found = pattern_of(self.vectors, self.rows, 2 * self._width + 6)
        return self._found

    def greatest(self, at, count):
        """The greatest sum from a head for a count; None if there is no walk."""
        if count < FEW:
            return self.sum_for(at, count)
        found = self.pattern()
        if found is not None and count < found.first:
            return self.sum_for(at, count)
        return value_at(self.staged_growth(at), count) if found is None else found.sum_for(at, count)

    def growth(self, at, endless):
        """The tuple (firsts, stairs, endless) of the greatest sums from a head, as in formulas."""
        if endless is not None:
            return (self.early(at, endless), [], endless)
        found = self.pattern()
        if found is not None:
            return (self.early(at, found.first), found.stairs_from(at), None)
        return self.staged_growth(at)

    def staged_growth(self, at):
        """The same, told by the stages, if none of the sums is endless: each gain is that of a ring."""
        many, stairs = self.length(), []
        for stage in self.stages:
            stairs.extend(stage.told_from(at))
        if is_there(self._final[at]):
            stairs.append((0, 1, self._final[at], 0))
        return (self.early(at, many), stairs, None)

    def length(self):
        """From how many hops on the stairs of the stages tell the greatest sums."""
        self.settle()
        return max([len(stage.touching) for stage in self.stages] + [self._width * self._layers + 1])

    def trail(self, at, count):
        """The list of the heads behind this one on a greatest walk with so many hops, which are few."""
        return trail_in(self.rows, self.upto(count), at, count)

    def settle(self):
        """Finds the stages, once."""
        if self.stages is not None:
            return
        self.stages = []
        rows, vectors = self.rows, self.vectors
        kinds = [at for at in range(self._width) if len(rows[at]) > 0]
        ring, gain = fastest_ring(rows, self._width)
        while ring is not None:
            # As long as a short walk that touches the ring can be: fewer other rings than it has heads,
            # each cut out of as many hops as there are heads, and a rest for each layer and one more.
            many = (len(ring) + self._layers) * len(kinds)
            extend(vectors, rows, many)
            self.stages.append(Stage(ring, gain, rows, vectors[:many], self._width))
            kinds = [at for at in kinds if at not in ring]
            rows = without(rows, ring, self._width)
            vectors = [without_heads(self.vectors[0], kinds, self._width)]
            ring, gain = fastest_ring(rows, self._width)
        # Without rings that gain no walk needs to come to a head twice.
        extend(vectors, rows, len(kinds) * self._layers + 1)
        self._final = vectors[len(kinds) * self._layers]


def fastest_ring(rows, width):
    """The ring of heads of the first layer that gains most for its length, and its gain; None if none gains."""
    moves = [(source, None, target, weight, 1) for source in range(width)
             for target, weight in rows[source] if target < width]
    _, ring, _ = best_quotient(width, moves)
    if ring is None:
        return None, 0
    return [moves[index][0] for index in ring], sum([moves[index][3] for index in ring])


def without(rows, ring, width):
    """The rows without what leads from and to heads of a ring, in all layers."""
    return [[] if at % width in ring else [(target, weight) for target, weight in row if target % width not in ring]
            for at, row in enumerate(rows)]


def without_heads(vector, kinds, width):
    """The vector in which only heads of these kinds have worths."""
    return [worth if at % width in kinds else LEAST for at, worth in enumerate(vector)]
