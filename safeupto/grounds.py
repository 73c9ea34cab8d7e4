"""The points and edges of a program, with numbers in the place of variables, and the nodes that matter on them.

A variable has a rank: 0 is None, the names follow in their order. The code of plus and minus tells the ranks of both.
"""

from safeupto.conditions import counts_among, points_in
from safeupto.graphs import graph_of
from safeupto.memory import keep


class Ground:
    """The graph of a program without parameters, and what its edges change.

    The keys of changes are the edges that set a variable. A change is a tuple of its rank, the mask of the codes with
    it, the action, and a dict in which it is kept where steps to such codes come from.
    """

    def __init__(self, program):
        self.chart = graph_of(program)
        sides = [None, *sorted(program.names)]
        many = len(sides)
        self.sides = many
        self.ranks = {side: at for at, side in enumerate(sides)}
        self.twos = [(plus, minus) for plus in sides for minus in sides]
        self.ranges = [(0, 0), *[(low, high) for _, low, high in sorted(program.variables)]]
        self.changes = {}
        # All edges, tuples (source, target, change or None, index), and those that lead back.
        self._lanes, self._back = [], []
        self._put_lanes()
        self._backward = self._lanes[::-1]
        self._codes = {0: []}
        self._into = {}
        self._merged = {}
        self._leading = {}

    def _put_lanes(self):
        """Finds what the edges change."""
        many, ranks, changes, lanes = self.sides, self.ranks, self.changes, self._lanes
        # A bit for each minus, and for each plus with None as minus.
        row = (1 << many) - 1
        column = ((1 << many * many) - 1) // row
        for edge, (source, target, action) in enumerate(self.chart.edges):
            change = None
            if action is not None and (action[0] == "set" or action[0] == "input"):
                rank = ranks[action[1]]
                change = (rank, row << rank * many | column << rank, action, {})
                changes[edge] = change
            lanes.append((source, target, change, edge))
            if target < source:
                self._back.append((source, target))

    def code_of(self, plus, minus):
        """The code of plus and minus, which are names or None."""
        return self.ranks[plus] * self.sides + self.ranks[minus]

    def ends_of(self, condition):
        """The list of the tuples (point, code) of the end nodes of a condition."""
        place, plus, minus, _ = condition
        code = self.code_of(plus, minus)
        return [(point, code) for point in points_in(self.chart, place)]

    def counts_for(self, size):
        """The list that tells with 1 and 0 which edges a size counts; None counts none."""
        if size is None:
            return [0] * len(self.chart.edges)
        if size[0] == "steps":
            return [0 if change is None else 1 for _, _, change, _ in self._lanes]
        return counts_among([action for _, _, action in self.chart.edges], size)

    def start_of(self, code):
        """The greatest value of a code at the beginning."""
        return self.ranges[code // self.sides][1] - self.ranges[code % self.sides][0]

    def codes_in(self, mask):
        """The sorted list of the codes that a mask tells by its bits."""
        if mask not in self._codes:
            found, rest = [], mask
            while rest > 0:
                found.append((rest & -rest).bit_length() - 1)
                rest = rest & (rest - 1)
            self._codes[mask] = found
        return self._codes[mask]

    def origins(self, change, code):
        """The list of the tuples (code ahead, weight) of the steps along an edge to a code that its change sets."""
        rank, _, action, known = change
        if code not in known:
            sides, ranks = self.sides, self.ranks
            plus, minus = code // sides, code % sides
            # An input adds its high to None for plus, and takes its low from it for minus.
            parts = [(None, action[3] if plus == rank else action[2])] if action[0] == "input" else action[2]
            found = [(ranks[side], weight) for side, weight in parts]
            # A variable minus itself is None minus None.
            if plus == rank:
                known[code] = [(0 if was == minus else was * sides + minus, weight) for was, weight in found]
            else:
                known[code] = [(0 if was == plus else plus * sides + was, -weight) for was, weight in found]
        return known[code]

    def lanes(self, counts, merged):
        """For each point the one that has its nodes, and the edges (source, target, change or None, index) of those.

        If they are merged, points have no nodes to which one edge leads, which sets nothing and is not counted.
        """
        if not merged:
            return list(range(self.chart.points)), self._lanes
        key = tuple(counts)
        return self._merged[key] if key in self._merged else keep(self._merged, key, self._merge(counts))

    def _merge(self, counts):
        """The same for merged points."""
        spots, found, joints = list(range(self.chart.points)), [], self.chart.joints()
        for source, target, change, edge in self._lanes:
            if change is None and counts[edge] == 0 and target not in joints:
                spots[target] = spots[source]
            else:
                found.append((spots[source], target, change, edge))
        return spots, found

    def codes_to(self, ends):
        """For each point the sorted list of the codes of the nodes there from which steps lead to ends.

        The ends are tuples (point, code). The list is not to be changed.
        """
        key = tuple(ends)
        if key not in self._leading:
            known, masks = self._codes, self._masks_to(ends)
            keep(self._leading, key, [known[mask] if mask in known else self.codes_in(mask) for mask in masks])
        return self._leading[key]

    def _masks_to(self, ends):
        """The masks of the codes from which steps lead to ends."""
        # All of them matter: each point is come to from point 0, and along each edge a step leads
        # to each node at its target, so that going back from a node comes to a beginning node.
        masks = [0] * self.chart.points
        for point, code in ends:
            masks[point] = masks[point] | 1 << code
        again = True
        while again:
            for source, target, change, _ in self._backward:
                mask = masks[target]
                if mask > 0:
                    if change is not None and mask & change[1] > 0:
                        mask = self._ahead(change, mask)
                    masks[source] = masks[source] | mask
            # In this order, only what leads back leads to a point that was not done.
            again = False
            for source, target in self._back:
                again = again or masks[target] & ~masks[source] > 0
        return masks

    def _ahead(self, change, mask):
        """The mask of the codes from which steps along an edge with this change lead to codes of a mask."""
        found = mask & ~change[1]
        for code in self.codes_in(mask & change[1]):
            for was, _ in self.origins(change, code):
                found = found | 1 << was
        return found

    def edge_into(self, point):
        """The first edge that leads to a point."""
        if len(self._into) == 0:
            for edge, (_, target, _) in enumerate(self.chart.edges):
                self._into.setdefault(target, edge)
        return self._into[point]


class Net:
    """The nodes from which steps lead to ends, tuples (point, code), and the steps between them.

    The nodes are told by indices; stands is the sorted list of their tuples (point, code). A move is a tuple (index of
    a node, edge, index of a node, weight, counted). If the net is merged, points at which nothing happens have no
    nodes: the values there are those at the spot from which one comes to them. The keys of entries are the beginning
    nodes, with their starts, and the exits are the end nodes.
    """

    def __init__(self, ground, ends, counts, merged):
        self.ground = ground
        self.counts = counts
        # What was found out about this net, which never changes.
        self.known = {}
        self.width = len(ground.twos)
        # For each point the one that has its nodes.
        self.spots, lanes = ground.lanes(counts, merged)
        codes, width, spots = ground.codes_to(ends), self.width, self.spots
        self._codes = codes
        self.stands = [(point, code) for point, some in enumerate(codes) if spots[point] == point for code in some]
        self.many = len(self.stands)
        self.index = {point * width + code: at for at, (point, code) in enumerate(self.stands)}
        self.moves = self._moves(lanes)
        self.entries = {at: ground.start_of(code) for at, code in enumerate(codes[0])}
        # For each end node a point at which it is, as several can be at one spot.
        self.lasts = {self.index[spots[point] * width + code]: point for point, code in ends}
        self.exits = list(self.lasts)

    def _moves(self, lanes):
        """The list of the moves, by their edges."""
        ground, codes, index, counts, width, found = self.ground, self._codes, self.index, self.counts, self.width, []
        for source, target, change, edge in lanes:
            for code in codes[target]:
                at = index[target * width + code]
                if change is None or change[1] >> code & 1 == 0:
                    found.append((index[source * width + code], edge, at, 0, counts[edge]))
                else:
                    for was, weight in ground.origins(change, code):
                        found.append((index[source * width + was], edge, at, weight, counts[edge]))
        return found

    def at(self, point, code):
        """The index of the node with the value at a point."""
        return self.index[self.spots[point] * self.width + code]

    def at_all_nodes(self, things):
        """The list of the tuples (node, thing) of all nodes that matter, in their order; things are told by indices."""
        twos, index, width, spots = self.ground.twos, self.index, self.width, self.spots
        return [((point, *twos[code]), things[index[spots[point] * width + code]])
                for point, codes in enumerate(self._codes) for code in codes]

    def has_node(self, node):
        """Whether there is an index of a node, a tuple (point, plus, minus)."""
        point, plus, minus = node
        return point * self.width + self.ground.code_of(plus, minus) in self.index

    def node(self, at):
        """The node with an index, a tuple (point, plus, minus)."""
        point, code = self.stands[at]
        plus, minus = self.ground.twos[code]
        return (point, plus, minus)

    def nodes(self):
        """The sorted list of the nodes that have indices."""
        pairs = self.ground.twos
        return [(point, *pairs[code]) for point, code in self.stands]

    def way(self, point):
        """The list of the edges by which one comes from its spot to a point; they change nothing."""
        found, ground = [], self.ground
        while self.spots[point] != point:
            edge = ground.edge_into(point)
            found.append(edge)
            point = ground.chart.edges[edge][0]
        return found[::-1]

    def steps_of(self, walk):
        """The list of the steps (edge, plus, minus) of a walk, a list of indices of moves."""
        found, ground = [], self.ground
        for index in walk:
            source, edge, target, _, _ = self.moves[index]
            plus, minus = ground.twos[self.stands[source][1]]
            found.extend([(one, plus, minus) for one in self.way(ground.chart.edges[edge][0])])
            found.append((edge, *ground.twos[self.stands[target][1]]))
        return found

    def last_steps(self, last):
        """The list of the steps from an end node, which is at its spot, to the point at which it is."""
        plus, minus = self.ground.twos[self.stands[last][1]]
        return [(edge, plus, minus) for edge in self.way(self.lasts[last])]
