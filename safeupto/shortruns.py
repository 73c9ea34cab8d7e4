"""Short runs: lists of rules for walks, told by anyone."""

from safeupto.conditions import is_side, points_in
from safeupto.growths import least_of
from safeupto.kinds import is_integer
from safeupto.nets import change_of, node_at, origins, start_of


class Judge:
    """Follows the rules of short runs in the graph of a program; counts tells what edges are counted.

    caps is a dict from edges to tuples (variable, most): behind the edge the value for this plus is at most most.
    """

    def __init__(self, program, graph, counts, caps):
        self._program = program
        self._points = graph.points
        self._edges = graph.edges
        self._counts = counts
        self._caps = caps
        self._changes = [change_of(action) for _, _, action in graph.edges]

    def follow(self, value):
        """The list of the tuples (first node, last node, sum, count, steps, cap) of the rules; None if one is wrong.

        A value ahead of the walk becomes the least of its sum with the walk's and the cap, if there is one.
        """
        if not isinstance(value, list) or len(value) == 0:
            return None
        found = []
        for rule in value:
            told = self._told(rule, found)
            if told is None:
                return None
            found.append(told)
        return found

    def _told(self, rule, earlier):
        if not isinstance(rule, tuple) or len(rule) != 3 or not isinstance(rule[0], str):
            return None
        if rule[0] == "walk":
            return self.walk(rule)
        return both(rule[1], rule[2], earlier) if rule[0] == "both" else None

    def walk(self, value):
        """What a rule with a walk tells; None if it is none."""
        if not isinstance(value, tuple) or len(value) != 3 or not isinstance(value[0], str) or value[0] != "walk":
            return None
        _, first, steps = value
        if not self._is_node(first) or not isinstance(steps, tuple):
            return None
        node, total, count, cap = first, 0, 0, None
        for step in steps:
            weight = self._weight(node, step)
            if weight is None:
                return None
            edge, plus, minus = step
            node = (self._edges[edge][1], plus, minus)
            total, count = total + weight, count + self._counts[edge]
            cap = None if cap is None else cap + weight
            if edge in self._caps and self._caps[edge][0] == plus:
                cap = least_of(cap, self._caps[edge][1])
        return (first, node, total, count, len(steps), cap)

    def _is_node(self, value):
        if not isinstance(value, tuple) or len(value) != 3 or not is_integer(value[0]):
            return False
        return 0 <= value[0] < self._points and self._are_sides(value[1], value[2])

    def _are_sides(self, plus, minus):
        if not is_side(self._program, plus) or not is_side(self._program, minus):
            return False
        return plus is None or plus != minus

    def _weight(self, node, step):
        """The weight of a step from a node; None if it is none."""
        if not isinstance(step, tuple) or len(step) != 3 or not is_integer(step[0]):
            return None
        edge, plus, minus = step
        if not 0 <= edge < len(self._edges) or not self._are_sides(plus, minus):
            return None
        source = self._edges[edge][0]
        for was_plus, was_minus, weight in origins(self._changes[edge], plus, minus):
            if node_at(source, was_plus, was_minus) == node:
                return weight
        return None


def both(first, second, earlier):
    """What a rule tells that joins two earlier ones; None if they cannot be joined."""
    if not is_integer(first) or not is_integer(second):
        return None
    if not 0 <= first < len(earlier) or not 0 <= second < len(earlier):
        return None
    begin, middle, total, count, steps, cap = earlier[first]
    other, end, more, others, rest, last = earlier[second]
    if middle != other:
        return None
    cap = last if cap is None else least_of(cap + more, last)
    return (begin, end, total + more, count + others, steps + rest, cap)


def worth_of_run(program, graph, condition, told):
    """The value behind what a rule tells, if it is from a beginning node to an end node, otherwise None."""
    place, plus, minus, _ = condition
    first, last, total, _, _, cap = told
    if first[0] != 0 or last not in [node_at(point, plus, minus) for point in points_in(graph, place)]:
        return None
    start = start_of({name: (low, high) for name, low, high in program.variables}, first[1], first[2])
    return least_of(start + total, cap)


class Rules:
    """The rules of a short run that is being made; moves and nodes are those of a net."""

    def __init__(self, net):
        self._net = net
        self._walks = {}
        self.rules = []

    def walk(self, walk):
        """The index of a rule with a walk, a list of indices of moves; None if it is empty."""
        if len(walk) == 0:
            return None
        if tuple(walk) not in self._walks:
            self._walks[tuple(walk)] = self._add(walk_rule(self._net, walk))
        return self._walks[tuple(walk)]

    def joined(self, first, second):
        """The index of a rule for both of these, where None is empty."""
        if first is None or second is None:
            return second if first is None else first
        return self._add(("both", first, second))

    def repeated(self, rule, times):
        """The index of a rule for so many times this one; None for none."""
        found = None
        while times > 0:
            if times & 1 == 1:
                found = self.joined(found, rule)
            times = times >> 1
            if times > 0:
                rule = self.joined(rule, rule)
        return found

    def _add(self, rule):
        self.rules.append(rule)
        return len(self.rules) - 1


def walk_rule(net, walk):
    """The rule with a walk, a list of indices of moves that is not empty."""
    steps = []
    for index in walk:
        _, edge, target, _, _ = net.moves[index]
        _, plus, minus = net.spots[target]
        steps.append((edge, plus, minus))
    return ("walk", net.spots[net.moves[walk[0]][0]], tuple(steps))
