"""Nodes, which stand for values at points, and the steps between them."""

from safeupto.conditions import is_condition_in, is_counted, is_size, points_in
from safeupto.errors import InvalidCondition, InvalidSize
from safeupto.graphs import Graph


def node_at(point, plus, minus):
    """The node for plus minus minus; a variable minus itself is written with None."""
    if plus == minus:
        return (point, None, None)
    return (point, plus, minus)


def node_order(node):
    """What nodes are sorted by: None comes ahead of each name."""
    point, plus, minus = node
    return (point, plus or "", minus or "")


def step_order(step):
    """What steps are sorted by."""
    source, edge, target, weight, counted = step
    return (node_order(source), edge, node_order(target), weight, counted)


def origins(action, name, sign):
    """The list of tuples (what a variable or None was ahead of an edge, what is added with this sign)."""
    word = None if action is None else action[0]
    if word not in ("set", "input") or action[1] != name:
        return [(name, 0)]
    if word == "set":
        return [(variable, sign * constant) for variable, constant in action[2]]
    return [(None, action[3] if sign == 1 else -action[2])]


def start_of(program, node):
    """The start of a beginning node."""
    lows = {name: low for name, low, _ in program.variables}
    highs = {name: high for name, _, high in program.variables}
    _, plus, minus = node
    return (0 if plus is None else highs[plus]) - (0 if minus is None else lows[minus])


class Terms:
    """The nodes of a condition that matter, and the steps between them."""

    def __init__(self, program, condition, size):
        graph = Graph(program)
        if not is_condition_in(program, graph, condition):
            raise InvalidCondition(condition)
        if not is_size(program, size):
            raise InvalidSize(size)
        self._edges = graph.edges
        self._size = size
        place, plus, minus, _ = condition
        ends = [node_at(point, plus, minus) for point in points_in(graph, place)]
        nodes, steps = self._go_back(ends, graph.edges_in())
        self._nodes = sorted(nodes, key=node_order)
        self._steps = sorted(steps, key=step_order)
        self._ends = sorted(ends, key=node_order)
        self._begins = {node: start_of(program, node) for node in nodes if node[0] == 0}

    def nodes(self):
        """The sorted list of the nodes that matter."""
        return list(self._nodes)

    def begins(self):
        """The dict from the beginning nodes that matter to their starts."""
        return {node: self._begins[node] for node in self._begins}

    def ends(self):
        """The sorted list of the end nodes that matter."""
        return list(self._ends)

    def steps(self):
        """The sorted list of the steps (node, edge, node, weight, counted) between nodes that matter."""
        return list(self._steps)

    def _go_back(self, ends, edges_in):
        """The lists of the nodes from which steps lead to ends, and of the steps between them."""
        # All of them matter: each point is come to from point 0, and along each edge a step leads
        # to each node at its target, so that going back from a node comes to a beginning node.
        nodes, steps = list(ends), []
        met = {node: True for node in ends}
        waiting = list(ends)
        while len(waiting) > 0:
            target = waiting.pop()
            for edge in edges_in[target[0]]:
                for step in self._steps_to(target, edge):
                    steps.append(step)
                    if step[0] not in met:
                        met[step[0]] = True
                        nodes.append(step[0])
                        waiting.append(step[0])
        return nodes, steps

    def _steps_to(self, target, edge):
        """The list of the steps along an edge to a node."""
        source, _, action = self._edges[edge]
        _, plus, minus = target
        counted = 1 if is_counted(self._size, action) else 0
        return [(node_at(source, was_plus, was_minus), edge, target, more + less, counted)
                for was_plus, more in origins(action, plus, 1)
                for was_minus, less in origins(action, minus, -1)]
