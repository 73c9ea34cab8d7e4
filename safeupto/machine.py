"""States, the machine that goes from one to the next, and its runs."""

from safeupto.errors import InvalidChoice, InvalidName, InvalidNumber, InvalidState
from safeupto.graphs import ends_of, graph_of
from safeupto.kinds import is_integer, is_within

MOST_CHOICES = 100


class State:
    """A point with the values of the variables, any objects."""

    def __init__(self, point, numbers):
        self._point = point
        self._numbers = numbers

    @property
    def point(self):
        """The point."""
        return self._point

    @property
    def numbers(self):
        """The tuple of the values of the variables."""
        return self._numbers

    def __eq__(self, other):
        return isinstance(other, State) and self._point == other._point and self._numbers == other._numbers


def are_guards(guards, program):
    """Whether guards is a list or tuple of different names of guards of the program."""
    if not isinstance(guards, (list, tuple)):
        return False
    known = program.guards
    for guard in guards:
        if not isinstance(guard, str) or guard not in known:
            return False
    return len(guards) < 2 or len(set(guards)) == len(guards)


class Machine:
    """Goes along the edges of a program, in which some guards are chosen."""

    def __init__(self, program, *, guards=()):
        self._graph = graph_of(program)
        if not are_guards(guards, program):
            raise InvalidName(guards)
        self._program = program
        self._guards = tuple(sorted(guards))
        self._variables = program.variables
        self._names = program.names
        self._spots = {name: at for at, name in enumerate(self._names)}
        self._edges = self._graph.edges
        self._out = self._graph.edges_out()
        # The actions of the edges that change numbers.
        self._effects = {index: action for index, (_, _, action) in enumerate(self._edges) if action is not None and (
            action[0] == "set" or action[0] == "input" or action[0] == "guard" and action[1] in self._guards)}

    @property
    def program(self):
        """The program."""
        return self._program

    @property
    def graph(self):
        """The graph of the program."""
        return self._graph

    @property
    def guards(self):
        """The sorted tuple of the names of the chosen guards."""
        return self._guards

    def start(self, numbers):
        """The state at point 0 with these values."""
        if not isinstance(numbers, tuple) or len(numbers) != len(self._variables):
            raise InvalidState(numbers)
        for number, (_, low, high) in zip(numbers, self._variables):
            if not isinstance(number, int) or number is True or number is False or not low <= number <= high:
                raise InvalidState(numbers)
        return State(0, numbers)

    def edges_from(self, state):
        """The sorted list of the indices of the edges from the point of a state."""
        if not self._is_state(state):
            raise InvalidState(state)
        return list(self._out[state.point])

    def step(self, state, choice):
        """The state behind a choice, a tuple (index of an edge, number)."""
        if not self._is_state(state):
            raise InvalidState(state)
        return self.behind(state.point, state.numbers, choice)

    def _is_state(self, value):
        """Whether the value is a state at which a run can go on."""
        if not isinstance(value, State) or not is_within(value.point, 0, self._graph.points - 1):
            return False
        numbers = value.numbers
        if not isinstance(numbers, tuple) or len(numbers) != len(self._names):
            return False
        return all([is_integer(number) for number in numbers])

    def behind(self, point, numbers, choice):
        """The state behind a choice at a point with these numbers, which are known to be right."""
        if not isinstance(choice, tuple) or len(choice) != 2:
            raise InvalidChoice(choice)
        index, number = choice
        if not isinstance(index, int) or index is True or index is False or index not in self._out[point]:
            raise InvalidChoice(choice)
        action = self._effects.get(index)
        if action is not None and action[0] == "input":
            if not is_within(number, action[2], action[3]):
                raise InvalidChoice(choice)
        elif number is not None:
            raise InvalidChoice(choice)
        return self.after(numbers, index, number)

    def after(self, numbers, index, number):
        """The state behind a choice, an edge and a number, at a point with these numbers; all is known to be right."""
        if index in self._effects:
            numbers = self._changed(numbers, self._effects[index], number)
        return State(self._edges[index][1], numbers)

    def states_along(self, numbers, choices):
        """The list of the states behind choices from a point with these numbers; all is known to be right."""
        edges, effects, found = self._edges, self._effects, []
        for index, number in choices:
            if index in effects:
                numbers = self._changed(numbers, effects[index], number)
            found.append(State(edges[index][1], numbers))
        return found

    def _changed(self, numbers, action, number):
        """The numbers behind an edge with this action, which changes them."""
        spots = self._spots
        if action[0] == "guard":
            at = spots[action[2]]
            worth = action[3] if action[3] < numbers[at] else numbers[at]
        elif action[0] == "input":
            at, worth = spots[action[1]], number
        else:
            at, worth = spots[action[1]], None
            for variable, constant in action[2]:
                one = constant if variable is None else numbers[spots[variable]] + constant
                if worth is None or one > worth:
                    worth = one
        return (*numbers[:at], worth, *numbers[at + 1:])


class Run:
    """The states that a machine goes through with these choices."""

    def __init__(self, machine, numbers, choices):
        self._machine = machine
        self._states = (machine.start(numbers),)
        self._choices = ()
        self._go_on(choices)

    @property
    def machine(self):
        """The machine."""
        return self._machine

    @property
    def choices(self):
        """The tuple of the choices."""
        return self._choices

    @property
    def states(self):
        """The tuple of the states, the first one included."""
        return self._states

    @property
    def last(self):
        """The last state."""
        return self._states[-1]

    def __len__(self):
        return len(self._choices)

    def __eq__(self, other):
        return (isinstance(other, Run) and self._states == other._states and self._choices == other._choices
                and self._machine.program == other._machine.program
                and self._machine.guards == other._machine.guards)

    def more(self, choices):
        """The run that goes on with these choices."""
        longer = Run(self._machine, self._states[0].numbers, ())
        # The states that are known already are not gone through again.
        longer._states = self._states
        longer._choices = self._choices
        longer._go_on(choices)
        return longer

    def through(self, states, choices):
        """The run from the first of these states with these choices, which all are known to be right."""
        other = Run(self._machine, states[0].numbers, ())
        other._states = tuple(states)
        other._choices = tuple(choices)
        return other

    def along(self, choices):
        """The run that goes on with a list of choices that are known to be possible."""
        longer = self.more(())
        longer._states = (*self._states, *self._machine.states_along(self._states[-1].numbers, choices))
        longer._choices = (*self._choices, *choices)
        return longer

    def _go_on(self, choices):
        if not isinstance(choices, (list, tuple)):
            raise InvalidChoice(choices)
        if len(choices) == 0:
            return
        machine, state, states = self._machine, self._states[-1], []
        for choice in choices:
            # The states come from the machine itself, so only the choices are looked at.
            state = machine.behind(state.point, state.numbers, choice)
            states.append(state)
        self._states = self._states + tuple(states)
        self._choices = self._choices + tuple(choices)


def starts_of(program):
    """The sorted list of the values at beginnings that are least or greatest ones."""
    found = [()]
    for _, low, high in program.variables:
        found = [(*numbers, number) for numbers in found for number in ends_of(low, high)]
    return found


def runs(machine, most):
    """Yields all runs with exactly so many choices, starts and inputs being least or greatest ones."""
    if not is_within(most, 0, MOST_CHOICES):
        raise InvalidNumber(most)
    ways = machine.graph.ways()
    for numbers in starts_of(machine.program):
        first = Run(machine, numbers, ())
        states, choices = [first.last], []
        # What is still to be done: how many choices are made then, the last one of them, and the point behind it.
        waiting = [(0, None, 0)]
        while len(waiting) > 0:
            length, made, point = waiting.pop()
            if made is not None:
                del states[length:], choices[length - 1:]
                states.append(machine.after(states[-1].numbers, made[0], made[1]))
                choices.append(made)
            if length == most:
                yield first.through(states, choices) if length > 0 else first
            else:
                # Only choices are made behind which the run can go on to its full length, so the next run is never far.
                waiting.extend([(length + 1, choice, target) for choice, target, lasting in ways[point]
                                if length + 1 + lasting >= most])
