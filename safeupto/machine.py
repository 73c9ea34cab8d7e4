"""States, the machine that goes from one to the next, and its runs."""

from safeupto.errors import InvalidChoice, InvalidName, InvalidNumber, InvalidState
from safeupto.graphs import Graph
from safeupto.kinds import is_integer, is_name, is_row, is_within

MOST_CHOICES = 100


class State:
    """A point with the values of the variables, any objects."""

    def __init__(self, point, numbers):
        self._point = point
        self._numbers = numbers

    @property
    def point(self):
        """The point."""
        return self._point

    @property
    def numbers(self):
        """The tuple of the values of the variables."""
        return self._numbers

    def __eq__(self, other):
        return isinstance(other, State) and self._point == other._point and self._numbers == other._numbers


def are_guards(guards, program):
    """Whether guards is a list or tuple of different names of guards of the program."""
    if not is_row(guards) or not all([is_name(guard) and guard in program.guards for guard in guards]):
        return False
    return len(set(guards)) == len(guards)


def is_input(action):
    """Whether an edge with this action is an input."""
    return action is not None and action[0] == "input"


def greatest_part(parts, worths):
    """The greatest of the parts, worths being a dict from the variables to their values."""
    return max([constant if variable is None else worths[variable] + constant for variable, constant in parts])


class Machine:
    """Goes along the edges of a program, in which some guards are chosen."""

    def __init__(self, program, *, guards=()):
        self._graph = Graph(program)
        if not are_guards(guards, program):
            raise InvalidName(guards)
        self._program = program
        self._guards = tuple(sorted(guards))
        self._out = self._graph.edges_out()

    @property
    def program(self):
        """The program."""
        return self._program

    @property
    def graph(self):
        """The graph of the program."""
        return self._graph

    @property
    def guards(self):
        """The sorted tuple of the names of the chosen guards."""
        return self._guards

    def start(self, numbers):
        """The state at point 0 with these values."""
        variables = self._program.variables
        if not isinstance(numbers, tuple) or len(numbers) != len(variables):
            raise InvalidState(numbers)
        for number, (_, low, high) in zip(numbers, variables):
            if not is_within(number, low, high):
                raise InvalidState(numbers)
        return State(0, numbers)

    def edges_from(self, state):
        """The sorted list of the indices of the edges from the point of a state."""
        if not self._is_state(state):
            raise InvalidState(state)
        return list(self._out[state.point])

    def step(self, state, choice):
        """The state behind a choice, a tuple (index of an edge, number)."""
        if not self._is_state(state):
            raise InvalidState(state)
        if not self._is_choice(state.point, choice):
            raise InvalidChoice(choice)
        index, number = choice
        _, target, action = self._graph.edges[index]
        return State(target, self._numbers_behind(action, state.numbers, number))

    def _is_state(self, value):
        """Whether the value is a state at which a run can go on."""
        if not isinstance(value, State) or not is_within(value.point, 0, self._graph.points - 1):
            return False
        numbers = value.numbers
        if not isinstance(numbers, tuple) or len(numbers) != len(self._program.names):
            return False
        return all([is_integer(number) for number in numbers])

    def _is_choice(self, point, value):
        """Whether the value is a choice that is possible at a point."""
        if not isinstance(value, tuple) or len(value) != 2:
            return False
        index, number = value
        if not is_integer(index) or index not in self._out[point]:
            return False
        action = self._graph.edges[index][2]
        if is_input(action):
            return is_within(number, action[2], action[3])
        return number is None

    def _numbers_behind(self, action, numbers, number):
        """The values behind an edge with this action; number is what an input gives."""
        word = None if action is None else action[0]
        if word not in ("set", "input", "guard") or (word == "guard" and action[1] not in self._guards):
            return numbers
        names = self._program.names
        worths = dict(zip(names, numbers))
        variable = action[2] if word == "guard" else action[1]
        if word == "set":
            worths[variable] = greatest_part(action[2], worths)
        elif word == "input":
            worths[variable] = number
        else:
            worths[variable] = min(worths[variable], action[3])
        return tuple([worths[name] for name in names])


class Run:
    """The states that a machine goes through with these choices."""

    def __init__(self, machine, numbers, choices):
        self._machine = machine
        self._program = machine.program
        self._guards = machine.guards
        self._states = (machine.start(numbers),)
        self._choices = ()
        self._go_on(choices)

    @property
    def machine(self):
        """The machine."""
        return self._machine

    @property
    def choices(self):
        """The tuple of the choices."""
        return self._choices

    @property
    def states(self):
        """The tuple of the states, the first one included."""
        return self._states

    @property
    def last(self):
        """The last state."""
        return self._states[-1]

    def __len__(self):
        return len(self._choices)

    def __eq__(self, other):
        return (isinstance(other, Run) and self._program == other._program and self._guards == other._guards
                and self._states == other._states and self._choices == other._choices)

    def more(self, choices):
        """The run that goes on with these choices."""
        longer = Run(self._machine, self._states[0].numbers, ())
        # The states that are known already are not gone through again.
        longer._states = self._states
        longer._choices = self._choices
        longer._go_on(choices)
        return longer

    def _go_on(self, choices):
        if not is_row(choices):
            raise InvalidChoice(choices)
        states = [self._states[-1]]
        for choice in choices:
            states.append(self._machine.step(states[-1], choice))
        self._states = self._states + tuple(states[1:])
        self._choices = self._choices + tuple(choices)


def ends_of(low, high):
    """The list of the least and the greatest number of a range, each once."""
    return [low] if low == high else [low, high]


def numbers_for(action):
    """The list of the numbers of choices of an edge with this action; an input gives the ends of its range."""
    return ends_of(action[2], action[3]) if is_input(action) else [None]


def starts_of(program):
    """The sorted list of the values at beginnings that are least or greatest ones."""
    found = [()]
    for _, low, high in program.variables:
        found = [(*numbers, number) for numbers in found for number in ends_of(low, high)]
    return found


def choices_at(machine, state, lasting):
    """The sorted list of the choices at a state that lead to points with True in lasting."""
    found = []
    for index in machine.edges_from(state):
        _, target, action = machine.graph.edges[index]
        if lasting[target]:
            found.extend([(index, number) for number in numbers_for(action)])
    return found


def lasting_points(graph, most):
    """The list that tells for 0, 1 .. most choices, at which points that many are possible."""
    found = [[True for _ in range(graph.points)]]
    for _ in range(most):
        lasting = [False for _ in range(graph.points)]
        for source, target, _ in graph.edges:
            lasting[source] = lasting[source] or found[-1][target]
        found.append(lasting)
    return found


def runs(machine, most):
    """Yields all runs with exactly so many choices, starts and inputs being least or greatest ones."""
    if not is_within(most, 0, MOST_CHOICES):
        raise InvalidNumber(most)
    lasting = lasting_points(machine.graph, most)
    waiting = [Run(machine, numbers, ()) for numbers in reversed(starts_of(machine.program))]
    # Only choices are made behind which the run can go on to its full length, so the next run is never far.
    while len(waiting) > 0:
        run = waiting.pop()
        if len(run) == most:
            yield run
        else:
            choices = choices_at(machine, run.last, lasting[most - len(run) - 1])
            waiting.extend([run.more([choice]) for choice in reversed(choices)])
