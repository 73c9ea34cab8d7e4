"""Short runs: lists of rules for walks, told by anyone."""

from safeupto.conditions import points_in
from safeupto.growths import least_of
from safeupto.kinds import is_within


class Judge:
    """Follows the rules of short runs on the ground of a program; counts tells what edges are counted.

    caps is a dict from edges to tuples (variable, most): behind the edge the value for this plus is at most most.
    """

    def __init__(self, ground, counts, caps):
        self._points = ground.chart.points
        self._edges = ground.chart.edges
        self._ranks = ground.ranks
        self._changes = ground.changes
        self._ground = ground
        self._counts = counts
        self._caps = caps

    def follow(self, value):
        """The list of the tuples (first node, last node, sum, count, steps, cap) of the rules; None if one is wrong.

        A value ahead of the walk becomes the least of its sum with the walk's and the cap, if there is one.
        """
        if not isinstance(value, list) or len(value) == 0:
            return None
        found = []
        for at, rule in enumerate(value):
            if not isinstance(rule, tuple) or len(rule) != 3:
                return None
            word, first, second = rule
            if not isinstance(word, str):
                return None
            if word == "both":
                if not isinstance(first, int) or not isinstance(second, int):
                    return None
                if first is True or first is False or second is True or second is False:
                    return None
                if not 0 <= first < at or not 0 <= second < at:
                    return None
                begin, middle, total, count, steps, cap = found[first]
                other, end, more, others, rest, last = found[second]
                if middle != other:
                    return None
                if cap is not None:
                    cap = cap + more
                if cap is None or last is not None and last < cap:
                    cap = last
                found.append((begin, end, total + more, count + others, steps + rest, cap))
            else:
                told = self._along(first, second) if word == "walk" else None
                if told is None:
                    return None
                found.append(told)
        return found

    def walk(self, value):
        """What a rule with a walk tells; None if it is none."""
        if not isinstance(value, tuple) or len(value) != 3 or not isinstance(value[0], str) or value[0] != "walk":
            return None
        return self._along(value[1], value[2])

    def _along(self, first, steps):
        """What a walk tells that begins with a node; None if it is none."""
        if not self._is_node(first) or not isinstance(steps, tuple):
            return None
        edges, changes, counts, caps = self._edges, self._changes, self._counts, self._caps
        point, plus, minus = first
        total, count, cap, many = 0, 0, None, len(edges)
        for step in steps:
            if not isinstance(step, tuple) or len(step) != 3:
                return None
            edge, next_plus, next_minus = step
            if not isinstance(edge, int) or edge is True or edge is False or not 0 <= edge < many:
                return None
            if next_plus is not None and not isinstance(next_plus, str):
                return None
            if next_minus is not None and not isinstance(next_minus, str):
                return None
            source, target, _ = edges[edge]
            if source != point:
                return None
            if edge in changes:
                weight = self._weight(changes[edge], plus, minus, next_plus, next_minus)
                if weight is None:
                    return None
                total, cap = total + weight, None if cap is None else cap + weight
            elif next_plus != plus or next_minus != minus:
                return None
            point, plus, minus, count = target, next_plus, next_minus, count + counts[edge]
            if edge in caps and caps[edge][0] == plus:
                cap = least_of(cap, caps[edge][1])
        return (first, (point, plus, minus), total, count, len(steps), cap)

    def _is_node(self, value):
        if not isinstance(value, tuple) or len(value) != 3 or not is_within(value[0], 0, self._points - 1):
            return False
        _, plus, minus = value
        if not (plus is None or isinstance(plus, str)) or not (minus is None or isinstance(minus, str)):
            return False
        return self._are_sides(plus, minus)

    def _are_sides(self, plus, minus):
        """Whether these, strings or None, are plus and minus of a node."""
        return plus in self._ranks and minus in self._ranks and (plus is None or plus != minus)

    def _weight(self, change, was_plus, was_minus, plus, minus):
        """The weight of a step along an edge with this change; None if it is none."""
        if not self._are_sides(plus, minus):
            return None
        ranks, sides = self._ranks, self._ground.sides
        code, was_code = ranks[plus] * sides + ranks[minus], ranks[was_plus] * sides + ranks[was_minus]
        if change[1] >> code & 1 == 0:
            return 0 if code == was_code else None
        for was, weight in self._ground.origins(change, code):
            if was == was_code:
                return weight
        return None


def worth_of_run(ground, condition, told):
    """The value behind what a rule tells, if it is from a beginning node to an end node, otherwise None."""
    place, plus, minus, _ = condition
    first, last, total, _, _, cap = told
    if first[0] != 0 or last[0] not in points_in(ground.chart, place) or last[1] != plus or last[2] != minus:
        return None
    return least_of(ground.start_of(ground.code_of(first[1], first[2])) + total, cap)


class Rules:
    """The rules of a short run that is being made, of walks of a net."""

    def __init__(self, net):
        self._net = net
        self._walks = {}
        self.rules = []

    def walk(self, walk):
        """The index of a rule with a walk, a list of indices of moves; None if it is empty."""
        if len(walk) == 0:
            return None
        return self._kept(self._net.moves[walk[0]][0], self._net.steps_of(walk))

    def ending(self, walk, end):
        """The index of a rule with a walk that ends at an end node, and goes on to its point; None if it is empty."""
        first = end if len(walk) == 0 else self._net.moves[walk[0]][0]
        steps = [*self._net.steps_of(walk), *self._net.last_steps(end)]
        return None if len(steps) == 0 else self._kept(first, steps)

    def _kept(self, first, steps):
        rule = ("walk", self._net.node(first), tuple(steps))
        if rule not in self._walks:
            self._walks[rule] = self._add(rule)
        return self._walks[rule]

    def joined(self, first, second):
        """The index of a rule for both of these, where None is empty."""
        if first is None or second is None:
            return second if first is None else first
        return self._add(("both", first, second))

    def repeated(self, rule, times):
        """The index of a rule for so many times this one; None for none."""
        found = None
        while times > 0:
            if times & 1 == 1:
                found = self.joined(found, rule)
            times = times >> 1
            if times > 0:
                rule = self.joined(rule, rule)
        return found

    def _add(self, rule):
        self.rules.append(rule)
        return len(self.rules) - 1


def ring_rule(net, ring):
    """The rule with a ring, a list of indices of moves."""
    return ("walk", net.node(net.moves[ring[0]][0]), tuple(net.steps_of(ring)))
