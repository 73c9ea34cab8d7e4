"""Nodes, which stand for values at points, and the steps between them."""

from safeupto.nets import full_net_for


class Terms:
    """The nodes of a condition that matter, and the steps between them."""

    def __init__(self, program, condition, size):
        self._net = full_net_for(program, condition, size)

    def nodes(self):
        """The sorted list of the nodes that matter."""
        return self._net.nodes()

    def begins(self):
        """The dict from the beginning nodes that matter to their starts."""
        net = self._net
        return {net.node(at): net.entries[at] for at in net.entries}

    def ends(self):
        """The sorted list of the end nodes that matter."""
        return [self._net.node(at) for at in self._net.exits]

    def steps(self):
        """The sorted list of the steps (node, edge, node, weight, counted) between nodes that matter."""
        nodes = self._net.nodes()
        return [(nodes[source], edge, nodes[target], weight, counted)
                for source, edge, target, weight, counted in sorted(self._net.moves)]
