"""The points and edges of a program, with numbers in the place of variables, and the nodes that matter on them.

A variable has a rank: 0 is None, the names follow in their order. The code of plus and minus tells the ranks of both.
"""

from safeupto.conditions import counts_among, points_in
from safeupto.graphs import graph_of


def parts_of(action):
    """The parts of the variable that an action sets, tuples (variable or None, constant for plus, that for minus)."""
    if action[0] == "input":
        return [(None, action[3], -action[2])]
    return [(variable, constant, -constant) for variable, constant in action[2]]


class Ground:
    """The graph of a program without parameters, and what its edges change.

    The keys of changes are the edges that set a variable. A change is a tuple of its rank, the mask of the codes with
    it, the action, and a dict in which it is kept where steps to such codes come from.
    """

    def __init__(self, program):
        self.chart = graph_of(program)
        sides = [None, *sorted(program.names)]
        self.sides = len(sides)
        self.ranks = {side: at for at, side in enumerate(sides)}
        self.twos = [(plus, minus) for plus in sides for minus in sides]
        self.ranges = [(0, 0), *[(low, high) for _, low, high in sorted(program.variables)]]
        touched = self._touched()
        self.changes = {edge: (*touched[action[1]], action, {}) for edge, (_, _, action) in enumerate(self.chart.edges)
                        if action is not None and (action[0] == "set" or action[0] == "input")}
        self._codes = {}
        self._into = {}

    def _touched(self):
        """For each name, and None, the tuple of its rank and the mask of the codes with it as plus or as minus."""
        sides = self.sides
        row = (1 << sides) - 1
        # A bit for each plus, all with None as minus.
        column = sum([1 << plus * sides for plus in range(sides)])
        return {side: (rank, row << rank * sides | column << rank) for side, rank in self.ranks.items()}

    def code_of(self, plus, minus):
        """The code of plus and minus, which are names or None."""
        return self.ranks[plus] * self.sides + self.ranks[minus]

    def ends_of(self, condition):
        """The list of the tuples (point, code) of the end nodes of a condition."""
        place, plus, minus, _ = condition
        code = self.code_of(plus, minus)
        return [(point, code) for point in points_in(self.chart, place)]

    def counts_for(self, size):
        """The list that tells with 1 and 0 which edges a size counts; None counts none."""
        if size is None:
            return [0] * len(self.chart.edges)
        return counts_among([action for _, _, action in self.chart.edges], size)

    def start_of(self, code):
        """The greatest value of a code at the beginning."""
        plus, minus = divmod(code, self.sides)
        return self.ranges[plus][1] - self.ranges[minus][0]

    def codes_in(self, mask):
        """The sorted list of the codes that a mask tells by its bits."""
        found = self._codes.get(mask)
        if found is None:
            found, rest = [], mask
            while rest > 0:
                found.append((rest & -rest).bit_length() - 1)
                rest = rest & (rest - 1)
            self._codes[mask] = found
        return found

    def origins(self, change, code):
        """The list of the tuples (code ahead, weight) of the steps along an edge to a code that its change sets."""
        found = change[3].get(code)
        if found is None:
            sides, ranks = self.sides, self.ranks
            plus, minus = divmod(code, sides)
            # A variable minus itself is None minus None.
            if plus == change[0]:
                parts = [(ranks[variable], up) for variable, up, _ in parts_of(change[2])]
                found = [(0 if was == minus else was * sides + minus, up) for was, up in parts]
            else:
                parts = [(ranks[variable], down) for variable, _, down in parts_of(change[2])]
                found = [(0 if was == plus else plus * sides + was, down) for was, down in parts]
            change[3][code] = found
        return found

    def masks(self, edges, ends):
        """For each point the mask of the codes of the nodes there from which steps lead to ends.

        The edges are tuples (source, target, change or None, anything), ends are tuples (point, code).
        """
        # All of them matter: each point is come to from point 0, and along each edge a step leads
        # to each node at its target, so that going back from a node comes to a beginning node.
        masks = [0] * self.chart.points
        for point, code in ends:
            masks[point] = masks[point] | 1 << code
        backward = edges[::-1]
        back = [(source, target) for source, target, _, _ in backward if target < source]
        again = True
        while again:
            for source, target, change, _ in backward:
                mask = masks[target]
                if mask > 0:
                    masks[source] = masks[source] | (mask if change is None else self.ahead(change, mask))
            # In this order, only what leads back leads to a point that was not done.
            again = len(back) > 0 and any([masks[target] & ~masks[source] != 0 for source, target in back])
        return masks

    def ahead(self, change, mask):
        """The mask of the codes from which steps along an edge with this change lead to codes of a mask."""
        found = mask & ~change[1]
        if found != mask:
            for code in self.codes_in(mask & change[1]):
                for was, _ in self.origins(change, code):
                    found = found | 1 << was
        return found

    def places_in(self, masks):
        """The sorted list of the tuples (point, code) that masks tell."""
        return [(point, code) for point, mask in enumerate(masks) if mask > 0 for code in self.codes_in(mask)]

    def edge_into(self, point):
        """The first edge that leads to a point."""
        if len(self._into) == 0:
            for edge, (_, target, _) in enumerate(self.chart.edges):
                self._into.setdefault(target, edge)
        return self._into[point]


class Net:
    """The nodes from which steps lead to ends, tuples (point, code), and the steps between them.

    The nodes are told by indices; stands is the sorted list of their tuples (point, code). A move is a tuple (index of
    a node, edge, index of a node, weight, counted). If the net is merged, those points have no nodes to which one edge
    leads, which sets nothing and is not counted: the values there are those at the spot from which one comes to them.
    The keys of entries are the beginning nodes, with their starts, and the exits are the end nodes.
    """

    def __init__(self, ground, ends, counts, merged):
        self.ground = ground
        self.counts = counts
        # What was found out about this net, which never changes.
        self.known = {}
        self.width = len(ground.twos)
        # For each point the one that has its nodes.
        self.spots = list(range(ground.chart.points))
        edges = self._edges_kept(merged)
        masks = ground.masks(edges, [(self.spots[point], code) for point, code in ends])
        self._ends, self._masks = ends, masks
        self.stands = ground.places_in(masks)
        self.many = len(self.stands)
        self.index = {point * self.width + code: at for at, (point, code) in enumerate(self.stands)}
        self.moves = self._moves(edges, masks)
        self.entries = {at: ground.start_of(code) for at, code in enumerate(ground.codes_in(masks[0]))}
        # For each end node a point at which it is, as several can be at one spot.
        self.lasts = {self.at(point, code): point for point, code in ends}
        self.exits = list(self.lasts)

    def _edges_kept(self, merged):
        """The list of the edges (spot, target, change, index) between spots; the others tell the spots of points."""
        graph, counts, changes, spots = self.ground.chart, self.counts, self.ground.changes, self.spots
        joints, found = graph.joints(), []
        for edge, (source, target, _) in enumerate(graph.edges):
            change = changes.get(edge)
            if merged and change is None and counts[edge] == 0 and target not in joints:
                spots[target] = spots[source]
            else:
                found.append((spots[source], target, change, edge))
        return found

    def _moves(self, edges, masks):
        """The list of the moves, by their edges."""
        ground, index, counts, width, moves = self.ground, self.index, self.counts, self.width, []
        for source, target, change, edge in edges:
            first, last, counted = source * width, target * width, counts[edge]
            for code in ground.codes_in(masks[target]):
                at = index[last + code]
                if change is None or change[1] >> code & 1 == 0:
                    moves.append((index[first + code], edge, at, 0, counted))
                else:
                    for was, weight in ground.origins(change, code):
                        moves.append((index[first + was], edge, at, weight, counted))
        return moves

    def at(self, point, code):
        """The index of the node with the value at a point."""
        return self.index[self.spots[point] * self.width + code]

    def all_places(self):
        """The sorted list of the tuples (point, code) of all nodes from which steps lead to ends."""
        # What is known at spots is all that matters there; the other points are told by those behind them.
        ground, spots, masks = self.ground, self.spots, list(self._masks)
        for point, code in self._ends:
            masks[point] = masks[point] | 1 << code
        backward = list(enumerate(ground.chart.edges))[::-1]
        for edge, (source, target, _) in backward:
            if spots[source] != source:
                change = ground.changes.get(edge)
                mask = masks[target] if change is None else ground.ahead(change, masks[target])
                masks[source] = masks[source] | mask
        return ground.places_in(masks)

    def has_node(self, node):
        """Whether there is an index of a node, a tuple (point, plus, minus)."""
        point, plus, minus = node
        return point * self.width + self.ground.code_of(plus, minus) in self.index

    def node(self, at):
        """The node with an index, a tuple (point, plus, minus)."""
        point, code = self.stands[at]
        plus, minus = self.ground.twos[code]
        return (point, plus, minus)

    def nodes(self):
        """The sorted list of the nodes that have indices."""
        pairs = self.ground.twos
        return [(point, *pairs[code]) for point, code in self.stands]

    def way(self, point):
        """The list of the edges by which one comes from its spot to a point; they change nothing."""
        found, ground = [], self.ground
        while self.spots[point] != point:
            edge = ground.edge_into(point)
            found.append(edge)
            point = ground.chart.edges[edge][0]
        return found[::-1]

    def steps_of(self, walk):
        """The list of the steps (edge, plus, minus) of a walk, a list of indices of moves."""
        found, ground = [], self.ground
        for index in walk:
            source, edge, target, _, _ = self.moves[index]
            plus, minus = ground.twos[self.stands[source][1]]
            found.extend([(one, plus, minus) for one in self.way(ground.chart.edges[edge][0])])
            found.append((edge, *ground.twos[self.stands[target][1]]))
        return found

    def last_steps(self, last):
        """The list of the steps from an end node, which is at its spot, to the point at which it is."""
        plus, minus = self.ground.twos[self.stands[last][1]]
        return [(edge, plus, minus) for edge in self.way(self.lasts[last])]
