"""Nodes, which stand for values at points, and the steps between them."""

from safeupto.nets import net_for


class Terms:
    """The nodes of a condition that matter, and the steps between them."""

    def __init__(self, program, condition, size):
        self._net = net_for(program, condition, size)

    def nodes(self):
        """The sorted list of the nodes that matter."""
        return list(self._net.spots)

    def begins(self):
        """The dict from the beginning nodes that matter to their starts."""
        net = self._net
        return {net.spots[at]: net.entries[at] for at in net.entries}

    def ends(self):
        """The sorted list of the end nodes that matter."""
        return [self._net.spots[at] for at in self._net.exits]

    def steps(self):
        """The sorted list of the steps (node, edge, node, weight, counted) between nodes that matter."""
        spots = self._net.spots
        return [(spots[source], edge, spots[target], weight, counted)
                for source, edge, target, weight, counted in self._net.moves]
