"""The nodes that matter for a condition and the steps between them, with indices in the place of nodes."""

from safeupto.conditions import counts_among, is_condition_in, is_size, points_in
from safeupto.errors import InvalidCondition, InvalidSize, TooMany
from safeupto.graphs import Graph

MOST_HEADS = 24


def node_at(point, plus, minus):
    """The node for plus minus minus; a variable minus itself is written with None."""
    if plus == minus:
        return (point, None, None)
    return (point, plus, minus)


def node_order(node):
    """What nodes are sorted by: None comes ahead of each name."""
    point, plus, minus = node
    return (point, plus or "", minus or "")


def change_of(action):
    """What an edge with this action sets, and the parts of it for plus and for minus; None if it sets nothing."""
    if action is None:
        return None
    if action[0] == "set":
        return (action[1], action[2], [(variable, -constant) for variable, constant in action[2]])
    if action[0] == "input":
        return (action[1], [(None, action[3])], [(None, -action[2])])
    return None


def origins(change, plus, minus):
    """The list of the tuples (what plus was, what minus was, weight) ahead of an edge with this change."""
    if change is not None:
        variable, ups, downs = change
        if plus == variable:
            return [(was, minus, weight) for was, weight in ups]
        if minus == variable:
            return [(plus, was, weight) for was, weight in downs]
    return [(plus, minus, 0)]


def counts_for(graph, size):
    """The list that tells with 1 and 0 which edges of a graph a size counts; None counts none."""
    if size is None:
        return [0 for _ in graph.edges]
    return counts_among([action for _, _, action in graph.edges], size)


def start_of(ranges, plus, minus):
    """The greatest value of plus minus minus, ranges being a dict from the variables to (low, high)."""
    most = 0 if plus is None else ranges[plus][1]
    return most if minus is None else most - ranges[minus][0]


class Weave:
    """Nodes, sorted, in spots, and the steps between them, sorted, in moves, found by going back from ends.

    A move is a tuple (index of a node, edge, index of a node, weight, counted).
    """

    def __init__(self, graph, ends, counts):
        nodes, steps = steps_back(graph, ends)
        self.spots = sorted(nodes, key=node_order)
        self.index = {node: at for at, node in enumerate(self.spots)}
        index = self.index
        self.moves = sorted([(index[source], edge, index[target], weight, counts[edge])
                             for source, edge, target, weight in steps])
        self.exits = [index[node] for node in ends]


class Net(Weave):
    """The nodes that matter for a condition and the steps between them.

    The indices of the beginning nodes are the keys of entries, with their starts, and those of the end nodes are in
    exits.
    """

    def __init__(self, program, graph, condition, counts):
        self.origin = (program, graph, counts)
        place, plus, minus, self.most = condition
        Weave.__init__(self, graph, [node_at(point, plus, minus) for point in points_in(graph, place)], counts)
        ranges = {name: (low, high) for name, low, high in program.variables}
        self.entries = {self.index[node]: start_of(ranges, node[1], node[2]) for node in self.spots if node[0] == 0}


def steps_back(graph, ends):
    """The lists of the nodes from which steps lead to ends, and of the steps between them, without counts."""
    # All of them matter: each point is come to from point 0, and along each edge a step leads
    # to each node at its target, so that going back from a node comes to a beginning node.
    edges, edges_in = graph.edges, graph.edges_in()
    changes = [change_of(action) for _, _, action in edges]
    nodes, steps = list(ends), []
    met = {node: True for node in ends}
    waiting = list(ends)
    while len(waiting) > 0:
        target = waiting.pop()
        point, plus, minus = target
        for edge in edges_in[point]:
            for was_plus, was_minus, weight in origins(changes[edge], plus, minus):
                node = node_at(edges[edge][0], was_plus, was_minus)
                steps.append((node, edge, target, weight))
                if node not in met:
                    met[node] = True
                    nodes.append(node)
                    waiting.append(node)
    return nodes, steps


def graph_for(program, condition):
    """The graph of a program, of which this is a condition; raises the errors of both."""
    graph = Graph(program)
    if not is_condition_in(program, graph, condition):
        raise InvalidCondition(condition)
    return graph


def net_for(program, condition, size):
    """The net of a condition, whose steps a size counts; raises the errors of all three."""
    return sized_net(program, graph_for(program, condition), condition, size)


def sized_net(program, graph, condition, size):
    """The net of a condition of a program with this graph; raises InvalidSize(size)."""
    if not is_size(program, size):
        raise InvalidSize(size)
    return Net(program, graph, condition, counts_for(graph, size))


def plain_net_for(program, condition):
    """The net of a condition without a size; raises the errors of both."""
    graph = graph_for(program, condition)
    return Net(program, graph, condition, counts_for(graph, None))


def all_heads(net):
    """The sorted list of the heads of a net: the beginning nodes, and the nodes to which counted moves lead."""
    return sorted(set([*net.entries, *[target for _, _, target, _, counted in net.moves if counted == 1]]))


def heads_of(net, most):
    """The sorted list of the heads of a net; raises TooMany with most if there are more."""
    heads = all_heads(net)
    if len(heads) > most:
        raise TooMany(most)
    return heads
