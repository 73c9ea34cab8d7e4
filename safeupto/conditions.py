"""Conditions, and the sizes of runs."""

from safeupto.errors import InvalidCondition, InvalidSize
from safeupto.graphs import graph_of
from safeupto.kinds import is_number, is_within

KINDS = ("rounds", "calls", "steps")


def is_condition(program, value):
    """Whether the value is a condition for the program."""
    return is_condition_in(program, graph_of(program), value)


def is_condition_in(program, graph, value):
    """Whether the value is a condition for the program, which has this graph."""
    if not isinstance(value, tuple) or len(value) != 4:
        return False
    place, plus, minus, most = value
    if not is_number(most) or not is_somewhere(graph, place):
        return False
    names = program.names
    if plus is not None and (not isinstance(plus, str) or plus not in names):
        return False
    if minus is None:
        return plus is not None
    return isinstance(minus, str) and minus in names and minus != plus and program.is_single


def is_somewhere(graph, place):
    """Whether place is a point, or the name of a place that has one."""
    if isinstance(place, str):
        return graph.has_place(place)
    return is_within(place, 0, graph.points - 1)


def points_in(graph, place):
    """The sorted list of the points of the place of a condition."""
    return graph.points_of(place) if isinstance(place, str) else [place]


def is_size(program, value):
    """Whether the value is a size for the program."""
    if not isinstance(value, tuple) or len(value) != 2:
        return False
    kind, name = value
    if not isinstance(kind, str):
        return False
    if name is None:
        return kind in KINDS
    if not isinstance(name, str):
        return False
    if kind == "rounds":
        return name in program.loops
    return kind == "calls" and name in [procedure for procedure, _ in program.procedures]


def counts_among(actions, size):
    """The list that tells with 1 and 0 which edges with these actions a size counts."""
    kind, name = size
    if kind == "steps":
        return [1 if action is not None and (action[0] == "set" or action[0] == "input") else 0 for action in actions]
    word = "round" if kind == "rounds" else "call"
    return [1 if action is not None and action[0] == word and (name is None or action[1] == name) else 0
            for action in actions]


def size_of(run, size):
    """How many edges of a run are counted by a size."""
    machine = run.machine
    if not is_size(machine.program, size):
        raise InvalidSize(size)
    edges = machine.graph.edges
    return sum(counts_among([edges[index][2] for index, _ in run.choices], size))


class Watch:
    """Looks whether a condition of a program with this graph holds at states."""

    def __init__(self, program, graph, condition):
        place, plus, minus, self._most = condition
        self.spots = points_in(graph, place)
        self._at = None if plus is None else program.names.index(plus)
        self._less = None if minus is None else program.names.index(minus)

    def is_broken(self, numbers):
        """Whether the condition does not hold with these values at a point of it."""
        worth = 0 if self._at is None else numbers[self._at]
        return worth - (0 if self._less is None else numbers[self._less]) > self._most


def first_break(run, condition):
    """The index of the first state of a run at which a condition does not hold, or None."""
    program, graph = run.machine.program, run.machine.graph
    if not is_condition_in(program, graph, condition):
        raise InvalidCondition(condition)
    watch = Watch(program, graph, condition)
    points = watch.spots
    for index, state in enumerate(run.states):
        if state.point in points and watch.is_broken(state.numbers):
            return index
    return None
