"""States, the machine that goes from one to the next, and its runs."""

from safeupto.errors import InvalidChoice, InvalidName, InvalidNumber, InvalidState
from safeupto.graphs import graph_of
from safeupto.kinds import is_integer, is_name, is_row, is_within

MOST_CHOICES = 100


class State:
    """A point with the values of the variables, any objects."""

    def __init__(self, point, numbers):
        self._point = point
        self._numbers = numbers

    @property
    def point(self):
        """The point."""
        return self._point

    @property
    def numbers(self):
        """The tuple of the values of the variables."""
        return self._numbers

    def __eq__(self, other):
        return isinstance(other, State) and self._point == other._point and self._numbers == other._numbers


def are_guards(guards, program):
    """Whether guards is a list or tuple of different names of guards of the program."""
    if not is_row(guards) or not all([is_name(guard) and guard in program.guards for guard in guards]):
        return False
    return len(set(guards)) == len(guards)


def is_input(action):
    """Whether an edge with this action is an input."""
    return action is not None and action[0] == "input"


def greatest_part(parts, names, numbers):
    """The greatest of the parts, numbers being the values of the variables with these names."""
    found = None
    for variable, constant in parts:
        worth = constant if variable is None else numbers[names.index(variable)] + constant
        if found is None or worth > found:
            found = worth
    return found


def with_number(numbers, at, number):
    """The tuple of numbers with another one at an index."""
    found = list(numbers)
    found[at] = number
    return tuple(found)


class Machine:
    """Goes along the edges of a program, in which some guards are chosen."""

    def __init__(self, program, *, guards=()):
        self._graph = graph_of(program)
        if not are_guards(guards, program):
            raise InvalidName(guards)
        self._program = program
        self._guards = tuple(sorted(guards))
        self._variables = program.variables
        self._names = program.names
        self._edges = self._graph.edges
        self._out = self._graph.edges_out()
        # The actions of the edges that change numbers.
        self._effects = {index: action for index, (_, _, action) in enumerate(self._edges) if action is not None and (
            action[0] == "set" or action[0] == "input" or action[0] == "guard" and action[1] in self._guards)}

    @property
    def program(self):
        """The program."""
        return self._program

    @property
    def graph(self):
        """The graph of the program."""
        return self._graph

    @property
    def guards(self):
        """The sorted tuple of the names of the chosen guards."""
        return self._guards

    def start(self, numbers):
        """The state at point 0 with these values."""
        if not isinstance(numbers, tuple) or len(numbers) != len(self._variables):
            raise InvalidState(numbers)
        for number, (_, low, high) in zip(numbers, self._variables):
            if not isinstance(number, int) or isinstance(number, bool) or not low <= number <= high:
                raise InvalidState(numbers)
        return State(0, numbers)

    def edges_from(self, state):
        """The sorted list of the indices of the edges from the point of a state."""
        if not self._is_state(state):
            raise InvalidState(state)
        return list(self._out[state.point])

    def step(self, state, choice):
        """The state behind a choice, a tuple (index of an edge, number)."""
        if not self._is_state(state):
            raise InvalidState(state)
        return self.behind(state.point, state.numbers, choice)

    def _is_state(self, value):
        """Whether the value is a state at which a run can go on."""
        if not isinstance(value, State) or not is_within(value.point, 0, self._graph.points - 1):
            return False
        numbers = value.numbers
        if not isinstance(numbers, tuple) or len(numbers) != len(self._names):
            return False
        return all([is_integer(number) for number in numbers])

    def behind(self, point, numbers, choice):
        """The state behind a choice at a point with these numbers, which are known to be right."""
        if not isinstance(choice, tuple) or len(choice) != 2:
            raise InvalidChoice(choice)
        index, number = choice
        if not isinstance(index, int) or isinstance(index, bool) or index not in self._out[point]:
            raise InvalidChoice(choice)
        action = self._effects.get(index)
        if action is not None and action[0] == "input":
            if not is_within(number, action[2], action[3]):
                raise InvalidChoice(choice)
        elif number is not None:
            raise InvalidChoice(choice)
        return self.after(numbers, index, number)

    def after(self, numbers, index, number):
        """The state behind a choice, an edge and a number, at a point with these numbers; all is known to be right."""
        if index in self._effects:
            numbers = self._changed(numbers, self._effects[index], number)
        return State(self._edges[index][1], numbers)

    def states_along(self, numbers, choices):
        """The list of the states behind choices from a point with these numbers; all is known to be right."""
        edges, effects, found = self._edges, self._effects, []
        for index, number in choices:
            if index in effects:
                numbers = self._changed(numbers, effects[index], number)
            found.append(State(edges[index][1], numbers))
        return found

    def _changed(self, numbers, action, number):
        """The numbers behind an edge with this action, which changes them."""
        if action[0] == "set":
            worth = greatest_part(action[2], self._names, numbers)
            return with_number(numbers, self._names.index(action[1]), worth)
        if action[0] == "input":
            return with_number(numbers, self._names.index(action[1]), number)
        at = self._names.index(action[2])
        return with_number(numbers, at, min(numbers[at], action[3]))


class Run:
    """The states that a machine goes through with these choices."""

    def __init__(self, machine, numbers, choices):
        self._machine = machine
        self._states = (machine.start(numbers),)
        self._choices = ()
        self._go_on(choices)

    @property
    def machine(self):
        """The machine."""
        return self._machine

    @property
    def choices(self):
        """The tuple of the choices."""
        return self._choices

    @property
    def states(self):
        """The tuple of the states, the first one included."""
        return self._states

    @property
    def last(self):
        """The last state."""
        return self._states[-1]

    def __len__(self):
        return len(self._choices)

    def __eq__(self, other):
        return (isinstance(other, Run) and self._states == other._states and self._choices == other._choices
                and self._machine.program == other._machine.program
                and self._machine.guards == other._machine.guards)

    def more(self, choices):
        """The run that goes on with these choices."""
        longer = Run(self._machine, self._states[0].numbers, ())
        # The states that are known already are not gone through again.
        longer._states = self._states
        longer._choices = self._choices
        longer._go_on(choices)
        return longer

    def along(self, choices):
        """The run that goes on with a list of choices that are known to be possible."""
        longer = self.more(())
        longer._states = (*self._states, *self._machine.states_along(self._states[-1].numbers, choices))
        longer._choices = (*self._choices, *choices)
        return longer

    def _go_on(self, choices):
        if not isinstance(choices, (list, tuple)):
            raise InvalidChoice(choices)
        if len(choices) == 0:
            return
        machine, state, states = self._machine, self._states[-1], []
        for choice in choices:
            # The states come from the machine itself, so only the choices are looked at.
            state = machine.behind(state.point, state.numbers, choice)
            states.append(state)
        self._states = self._states + tuple(states)
        self._choices = self._choices + tuple(choices)


def ends_of(low, high):
    """The list of the least and the greatest number of a range, each once."""
    return [low] if low == high else [low, high]


def numbers_for(action):
    """The list of the numbers of choices of an edge with this action; an input gives the ends of its range."""
    return ends_of(action[2], action[3]) if is_input(action) else [None]


def starts_of(program):
    """The sorted list of the values at beginnings that are least or greatest ones."""
    found = [()]
    for _, low, high in program.variables:
        found = [(*numbers, number) for numbers in found for number in ends_of(low, high)]
    return found


def choices_at(machine, state, lasting):
    """The sorted list of the choices at a state that lead to points with True in lasting."""
    found = []
    for index in machine.edges_from(state):
        _, target, action = machine.graph.edges[index]
        if lasting[target]:
            found.extend([(index, number) for number in numbers_for(action)])
    return found


def lasting_points(graph, most):
    """The list that tells for 0, 1 .. most choices, at which points that many are possible."""
    found = [[True for _ in range(graph.points)]]
    for _ in range(most):
        lasting = [False for _ in range(graph.points)]
        for source, target, _ in graph.edges:
            lasting[source] = lasting[source] or found[-1][target]
        found.append(lasting)
    return found


def runs(machine, most):
    """Yields all runs with exactly so many choices, starts and inputs being least or greatest ones."""
    if not is_within(most, 0, MOST_CHOICES):
        raise InvalidNumber(most)
    lasting = lasting_points(machine.graph, most)
    waiting = [Run(machine, numbers, ()) for numbers in reversed(starts_of(machine.program))]
    # Only choices are made behind which the run can go on to its full length, so the next run is never far.
    while len(waiting) > 0:
        run = waiting.pop()
        if len(run) == most:
            yield run
        else:
            choices = choices_at(machine, run.last, lasting[most - len(run) - 1])
            waiting.extend([run.more([choice]) for choice in reversed(choices)])
