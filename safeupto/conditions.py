"""Conditions, and the sizes of runs."""

from safeupto.errors import InvalidCondition, InvalidSize
from safeupto.graphs import Graph
from safeupto.kinds import is_integer, is_name, is_number


def is_condition(program, value):
    """Whether the value is a condition for the program."""
    return is_condition_in(program, Graph(program), value)


def is_condition_in(program, graph, value):
    """Whether the value is a condition for the program, which has this graph."""
    if not isinstance(value, tuple) or len(value) != 4:
        return False
    place, plus, minus, most = value
    if not is_somewhere(graph, place) or not is_number(most):
        return False
    if not is_side(program, plus) or not is_side(program, minus) or plus == minus:
        return False
    return minus is None or program.is_single


def is_somewhere(graph, place):
    """Whether place is a point, or the name of a place that has one."""
    if is_integer(place):
        return 0 <= place < graph.points
    return is_name(place) and ("place", place) in [action for _, _, action in graph.edges]


def is_side(program, value):
    """Whether the value is None or the name of a variable."""
    return value is None or (is_name(value) and value in program.names)


def points_in(graph, place):
    """The sorted list of the points of the place of a condition."""
    return [place] if is_integer(place) else graph.points_of(place)


def is_size(program, value):
    """Whether the value is a size for the program."""
    if not isinstance(value, tuple) or len(value) != 2:
        return False
    kind, name = value
    if not isinstance(kind, str):
        return False
    if name is None:
        return kind in ("rounds", "calls", "steps")
    if not is_name(name):
        return False
    if kind == "rounds":
        return name in program.loops
    return kind == "calls" and name in [procedure for procedure, _ in program.procedures]


def is_counted(size, action):
    """Whether edges with this action are counted by a size."""
    if action is None:
        return False
    kind, name = size
    if kind == "steps":
        return action[0] in ("set", "input")
    word = "round" if kind == "rounds" else "call"
    return action[0] == word and (name is None or action[1] == name)


def size_of(run, size):
    """How many edges of a run are counted by a size."""
    if not is_size(run.machine.program, size):
        raise InvalidSize(size)
    edges = run.machine.graph.edges
    return len([index for index, _ in run.choices if is_counted(size, edges[index][2])])


def first_break(run, condition):
    """The index of the first state of a run at which a condition does not hold, or None."""
    program, graph = run.machine.program, run.machine.graph
    if not is_condition_in(program, graph, condition):
        raise InvalidCondition(condition)
    place, plus, minus, most = condition
    points = points_in(graph, place)
    for index, state in enumerate(run.states):
        if state.point in points and worth_of(program, state, plus) - worth_of(program, state, minus) > most:
            return index
    return None


def worth_of(program, state, name):
    """The value of a variable in a state; None counts as 0."""
    return 0 if name is None else state.numbers[program.names.index(name)]
