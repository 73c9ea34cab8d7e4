"""Walks from head to head with one counted step each, which are what longer walks are made of."""

from heapq import heappop, heappush

from safeupto.rings import gaining_rings, outs_without, path_to, settle


class Hops:
    """What leads from head to head and to the end nodes, without the nodes of rings that gain and count nothing.

    A walk that comes to such a node can be as great as one likes, so these are only asked for the least count
    with which one comes from a head through one of them to an end node.
    """

    def __init__(self, many, moves, heads, exits):
        self.many = many
        self.moves = moves
        self.heads = heads
        self.exits = exits
        self.rings = gaining_rings(many, moves)
        self.outs = outs_without(many, moves, self.rings)
        self.reaches = [self.reach(head)[0] for head in heads]
        self.rows = self._rows()
        self.lasts = [greatest_of([reach[at] for at in exits]) for reach in self.reaches]
        self.near, self.far = None, None
        if len(self.rings) > 0:
            self.near = backward(many, moves, {at: 0 for at in exits})
            near = self.near[0]
            self.far = backward(many, moves, {at: near[at] for at in self.rings if near[at] is not None})

    def reach(self, head):
        """The greatest sums of walks from a head that count nothing, and what raised them last."""
        worths = [None] * self.many
        if head not in self.rings:
            worths[head] = 0
        risen, _ = settle(self.outs, worths)
        return worths, risen

    def counted(self):
        """The list of the tuples (source, place of the target among the heads, weight, index) of counted moves."""
        place = {head: at for at, head in enumerate(self.heads)}
        return [(source, place[target], weight, index)
                for index, (source, _, target, weight, counted) in enumerate(self.moves) if counted == 1]

    def _rows(self):
        """For each head the list of tuples (place of a head, greatest sum) of at most one counted step."""
        counted = [(source, at, weight) for source, at, weight, _ in self.counted()
                   if source not in self.rings and self.heads[at] not in self.rings]
        rows = []
        for at, reach in enumerate(self.reaches):
            row = {} if self.heads[at] in self.rings else {at: 0}
            for source, target, weight in counted:
                if reach[source] is not None:
                    worth = reach[source] + weight
                    if target not in row or row[target] < worth:
                        row[target] = worth
            rows.append(list(row.items()))
        return rows

    def least_endless(self, at):
        """The least count with which walks from a head, given by its place, are endlessly great; None if none are."""
        return None if self.far is None else self.far[0][self.heads[at]]

    def to_ring(self, at):
        """The walk from a head to a ring that gains, with the least count to an end node, and the node there."""
        return follow(self.moves, self.far[1], self.heads[at])

    def from_ring(self, node):
        """The walk from a node to an end node with the least count."""
        return follow(self.moves, self.near[1], node)[0]

    def hop(self, first, second):
        """The list of the indices of the moves of a greatest walk from head to head, both given by their places."""
        reach, risen = self.reach(self.heads[first])
        found = None
        for source, at, weight, index in self.counted():
            if at == second and reach[source] is not None:
                if found is None or reach[source] + weight > found[0]:
                    found = (reach[source] + weight, source, index)
        return [*path_to(risen, found[1]), found[2]]

    def finish(self, at):
        """The list of the indices of the moves of a greatest walk from a head to an end node that counts nothing."""
        reach, risen = self.reach(self.heads[at])
        for last in self.exits:
            if reach[last] is not None and reach[last] == self.lasts[at]:
                return path_to(risen, last)
        return None


def greatest_of(worths):
    """The greatest of these, where None is less than all."""
    return max([worth for worth in worths if worth is not None], default=None)


def backward(many, moves, seeds):
    """The least counts from each node to one of the seeds, with theirs, and the first moves on these ways."""
    into = [[] for _ in range(many)]
    for index, (source, _, target, _, counted) in enumerate(moves):
        into[target].append((source, counted, index))
    counts, leads = [None] * many, [None] * many
    waiting = []
    for node in seeds:
        counts[node] = seeds[node]
        heappush(waiting, (seeds[node], node))
    while len(waiting) > 0:
        count, node = heappop(waiting)
        if count == counts[node]:
            for source, counted, index in into[node]:
                known = counts[source]
                if known is None or known > count + counted:
                    counts[source] = count + counted
                    leads[source] = index
                    heappush(waiting, (count + counted, source))
    return counts, leads


def follow(moves, leads, node):
    """The list of the indices of moves that leads give from a node on, and the node at its end."""
    found = []
    while leads[node] is not None:
        found.append(leads[node])
        node = moves[leads[node]][2]
    return found, node
