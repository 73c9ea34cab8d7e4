"""Walks from head to head with one counted step each, which are what longer walks are made of."""

from heapq import heappop, heappush

from safeupto.rings import gaining_rings, outs_without, path_to, settle

# After as many passes sums that still rise may do so for ever.
FEW_PASSES = 4


class Hops:
    """What leads from head to head and to the end nodes, without the nodes of rings that gain and count nothing.

    A walk that comes to such a node can be as great as one likes, so these are only asked for the least count
    with which one comes from a head through one of them to an end node.
    """

    def __init__(self, many, moves, heads, exits):
        self.many = many
        self.moves = moves
        self.heads = heads
        self.exits = exits
        places = {head: at for at, head in enumerate(heads)}
        self.counted = [(source, places[target], weight, index)
                        for index, (source, _, target, weight, counted) in enumerate(moves) if counted == 1]
        self.rings, self.outs = {}, outs_without(many, moves, {})
        # For each node the greatest sums of walks from heads, by their places, that count nothing.
        self.reaches = flooded(self.outs, [(head, at) for at, head in enumerate(heads)], FEW_PASSES)
        if self.reaches is None:
            self.rings, self.outs = gaining_rings(many, moves)
            seeds = [(head, at) for at, head in enumerate(heads) if head not in self.rings]
            self.reaches = flooded(self.outs, seeds, None)
        self._rows = None
        self._lasts = None
        self.near, self.far = None, None
        if len(self.rings) > 0:
            self.near = backward(many, moves, {at: 0 for at in exits})
            near = self.near[0]
            self.far = backward(many, moves, {at: near[at] for at in self.rings if near[at] is not None})
        self._risen = {}

    def all_hops(self):
        """For each head the list of tuples (place of a head, greatest sum) of at most one counted step, made once."""
        if self._rows is None:
            self._rows = self._made_rows()
        return self._rows

    def last_sums(self):
        """The list of the greatest sums of walks from heads to end nodes that count nothing, or None, made once."""
        if self._lasts is None:
            self._lasts = self._made_lasts()
        return self._lasts

    def _made_rows(self):
        rings = self.rings
        rows = [{} if head in rings else {at: 0} for at, head in enumerate(self.heads)]
        for source, target, weight, _ in self.counted:
            if self.heads[target] not in rings:
                for at, reach in self.reaches[source].items():
                    row, worth = rows[at], reach + weight
                    if target not in row or row[target] < worth:
                        row[target] = worth
        return [list(row.items()) for row in rows]

    def _made_lasts(self):
        found = [None] * len(self.heads)
        for last in self.exits:
            for at, reach in self.reaches[last].items():
                if found[at] is None or found[at] < reach:
                    found[at] = reach
        return found

    def least_endless(self, at):
        """The least count with which walks from a head, given by its place, are endlessly great; None if none are."""
        return None if self.far is None else self.far[0][self.heads[at]]

    def to_ring(self, at):
        """The walk from a head to a ring that gains, with the least count to an end node, and the node there."""
        return follow(self.moves, self.far[1], self.heads[at])

    def from_ring(self, node):
        """The walk from a node with the least count to an end node, and the end node."""
        return follow(self.moves, self.near[1], node)

    def _risen_from(self, at):
        """What raised the greatest sums of walks from a head that count nothing last."""
        if at not in self._risen:
            worths = [None] * self.many
            worths[self.heads[at]] = 0
            self._risen[at], _ = settle(self.outs, worths)
        return self._risen[at]

    def hop(self, first, second):
        """The list of the indices of the moves of a greatest walk from head to head, both given by their places."""
        found = None
        for source, at, weight, index in self.counted:
            if at == second:
                reach = self.reaches[source].get(first)
                if reach is not None and (found is None or reach + weight > found[0]):
                    found = (reach + weight, source, index)
        return [*path_to(self._risen_from(first), found[1]), found[2]]

    def finish(self, at):
        """The indices of the moves of a greatest walk from a head that counts nothing to an end node, and this one."""
        for last in self.exits:
            reach = self.reaches[last].get(at)
            if reach is not None and reach == self.last_sums()[at]:
                return path_to(self._risen_from(at), last), last
        return None


def flooded(outs, seeds, passes):
    """For each node the dict from names to the greatest sums of walks from the seeds, tuples (node, name), along outs.

    None if after so many passes sums still rise; where passes are not limited, there are no rings that gain.
    """
    tables, fresh = [{} for _ in outs], [False] * len(outs)
    for node, name in seeds:
        tables[node][name] = 0
        fresh[node] = True
    again = True
    while again and passes != 0:
        again = flood_once(outs, tables, fresh)
        passes = None if passes is None else passes - 1
    return None if again else tables


def flood_once(outs, tables, fresh):
    """Goes through all nodes that were raised since they were gone through; returns whether some still are."""
    again = False
    for source, leads in enumerate(outs):
        if fresh[source]:
            fresh[source] = False
            here = tables[source]
            for target, weight, _ in leads:
                there = tables[target]
                for name in here:
                    worth = here[name] + weight
                    if name not in there or there[name] < worth:
                        there[name] = worth
                        fresh[target] = True
                        again = again or target <= source
    return again


def backward(many, moves, seeds):
    """The least counts from each node to one of the seeds, with theirs, and the first moves on these ways."""
    into = [[] for _ in range(many)]
    for index, (source, _, target, _, counted) in enumerate(moves):
        into[target].append((source, counted, index))
    counts, leads = [None] * many, [None] * many
    waiting = []
    for node in seeds:
        counts[node] = seeds[node]
        heappush(waiting, (seeds[node], node))
    while len(waiting) > 0:
        count, node = heappop(waiting)
        if count == counts[node]:
            for source, counted, index in into[node]:
                known = counts[source]
                if known is None or known > count + counted:
                    counts[source] = count + counted
                    leads[source] = index
                    heappush(waiting, (count + counted, source))
    return counts, leads


def follow(moves, leads, node):
    """The list of the indices of moves that leads give from a node on, and the node at its end."""
    found = []
    while leads[node] is not None:
        found.append(leads[node])
        node = moves[leads[node]][2]
    return found, node
