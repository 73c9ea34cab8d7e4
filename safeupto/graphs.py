"""The points and edges of programs."""

from safeupto.errors import InvalidName, InvalidProgram, TooMany
from safeupto.programs import is_plain

MOST_POINTS = 150
# More choices than anybody asks for.
FOR_EVER = 1000


def graph_of(program):
    """The graph of a program, which is made once; raises its errors."""
    if not is_plain(program):
        raise InvalidProgram(program)
    found = program.recalled("graph")
    return program.remember("graph", Graph(program)) if found is None else found


def ends_of(low, high):
    """The list of the least and the greatest number of a range, each once."""
    return [low] if low == high else [low, high]


def numbers_for(action):
    """The list of the numbers of choices of an edge with this action; an input gives the ends of its range."""
    return ends_of(action[2], action[3]) if action is not None and action[0] == "input" else [None]


class Graph:
    """The points and edges of a program without parameters."""

    def __init__(self, program):
        if not is_plain(program):
            raise InvalidProgram(program)
        self._bodies = {name: body for name, body in program.procedures}
        self._many = 1
        self._made = []
        self._places = {}
        # The points to which two edges lead.
        self._joints = {}
        self._out = []
        self._ways = []
        self._end = self._go_through(program.main, 0)
        self._edges = tuple(self._made)

    @property
    def points(self):
        """The number of points."""
        return self._many

    @property
    def edges(self):
        """The tuple of the edges (source, target, action)."""
        return self._edges

    @property
    def end(self):
        """The point at which main ends."""
        return self._end

    def points_of(self, place):
        """The sorted list of the points of a place."""
        if not isinstance(place, str) or place not in self._places:
            raise InvalidName(place)
        return list(self._places[place])

    def has_place(self, value):
        """Whether a string is the name of a place that has points."""
        return value in self._places

    def joints(self):
        """The dict with the points to which two edges lead, which is not to be changed."""
        return self._joints

    def edges_out(self):
        """The list of the lists of the indices of the edges that begin at each point, which is not to be changed."""
        if len(self._out) == 0:
            self._out = [[] for _ in range(self._many)]
            for index, (source, _, _) in enumerate(self._edges):
                self._out[source].append(index)
        return self._out

    def ways(self):
        """For each point the list of what can be done there, the last one first, which is not to be changed.

        These are tuples of a choice (edge, number), where an input gives the least or the greatest number, the point
        behind it, and how many choices can follow; FOR_EVER or more is without an end.
        """
        if len(self._ways) == 0:
            found, lasting = [[] for _ in range(self._many)], self._lasting()
            for index in range(len(self._edges) - 1, -1, -1):
                source, target, action = self._edges[index]
                for number in reversed(numbers_for(action)):
                    found[source].append(((index, number), target, lasting[target]))
            self._ways = found
        return self._ways

    def _lasting(self):
        """The list that tells for each point how many choices can follow there; FOR_EVER or more is without an end."""
        # Only the last edge of a loop leads back, to its head, and whoever is there can go around for ever.
        found, out = [0] * self._many, self.edges_out()
        for source, target, _ in self._edges:
            if target < source:
                found[target] = FOR_EVER
        for source in range(self._many - 1, -1, -1):
            for edge in out[source]:
                further = found[self._edges[edge][1]] + 1
                if found[source] < further:
                    found[source] = further
        return found

    def _go_through(self, body, point):
        """Makes the points and edges of a body that begins at the point; returns where it ends."""
        for statement in body:
            word = statement[0]
            if word == "either":
                point = self._either(statement, point)
            elif word == "loop":
                point = self._loop(statement, point)
            elif word == "call":
                last = self._go_through(self._bodies[statement[1]], self._lead(point, statement))
                point = self._lead(last, None)
            else:
                point = self._lead(point, statement)
                if word == "place":
                    self._places.setdefault(statement[1], []).append(point)
        return point

    def _either(self, statement, point):
        first = self._go_through(statement[1], self._lead(point, None))
        second = self._go_through(statement[2], self._lead(point, None))
        joint = self._lead(first, None)
        self._joints[joint] = True
        self._made.append((second, joint, None))
        return joint

    def _loop(self, statement, point):
        head = self._lead(point, None)
        self._joints[head] = True
        last = self._go_through(statement[2], self._lead(head, ("round", statement[1])))
        self._made.append((last, head, None))
        return self._lead(head, None)

    def _lead(self, source, action):
        """Makes a new point and an edge to it; returns the point."""
        # It is looked at with each point, as a program can have millions of them.
        if self._many == MOST_POINTS:
            raise TooMany(MOST_POINTS)
        self._many = self._many + 1
        self._made.append((source, self._many - 1, action))
        return self._many - 1
