"""The points and edges of programs."""

from safeupto.errors import InvalidName, InvalidProgram, TooMany
from safeupto.programs import is_plain

MOST_POINTS = 150


def graph_of(program):
    """The graph of a program, which is made once; raises its errors."""
    if not is_plain(program):
        raise InvalidProgram(program)
    found = program.recalled("graph")
    return program.remember("graph", Graph(program)) if found is None else found


class Graph:
    """The points and edges of a program without parameters."""

    def __init__(self, program):
        if not is_plain(program):
            raise InvalidProgram(program)
        self._bodies = {name: body for name, body in program.procedures}
        self._many = 1
        self._made = []
        self._places = {}
        # The points to which two edges lead.
        self._joints = {}
        self._out = []
        self._end = self._go_through(program.main, 0)
        self._edges = tuple(self._made)

    @property
    def points(self):
        """The number of points."""
        return self._many

    @property
    def edges(self):
        """The tuple of the edges (source, target, action)."""
        return self._edges

    @property
    def end(self):
        """The point at which main ends."""
        return self._end

    def points_of(self, place):
        """The sorted list of the points of a place."""
        if not self.has_place(place):
            raise InvalidName(place)
        return list(self._places[place])

    def has_place(self, value):
        """Whether the value is the name of a place that has points."""
        return isinstance(value, str) and value in self._places

    def joints(self):
        """The dict with the points to which two edges lead, which is not to be changed."""
        return self._joints

    def edges_out(self):
        """The list of the lists of the indices of the edges that begin at each point, which is not to be changed."""
        if len(self._out) == 0:
            self._out = [[] for _ in range(self._many)]
            for index, (source, _, _) in enumerate(self._edges):
                self._out[source].append(index)
        return self._out

    def _go_through(self, body, point):
        """Makes the points and edges of a body that begins at the point; returns where it ends."""
        for statement in body:
            word = statement[0]
            if word == "either":
                point = self._either(statement, point)
            elif word == "loop":
                point = self._loop(statement, point)
            elif word == "call":
                last = self._go_through(self._bodies[statement[1]], self._lead(point, statement))
                point = self._lead(last, None)
            else:
                point = self._lead(point, statement)
                if word == "place":
                    self._places.setdefault(statement[1], []).append(point)
        return point

    def _either(self, statement, point):
        first = self._go_through(statement[1], self._lead(point, None))
        second = self._go_through(statement[2], self._lead(point, None))
        joint = self._lead(first, None)
        self._joints[joint] = True
        self._made.append((second, joint, None))
        return joint

    def _loop(self, statement, point):
        head = self._lead(point, None)
        self._joints[head] = True
        last = self._go_through(statement[2], self._lead(head, ("round", statement[1])))
        self._made.append((last, head, None))
        return self._lead(head, None)

    def _lead(self, source, action):
        """Makes a new point and an edge to it; returns the point."""
        # It is looked at with each point, as a program can have millions of them.
        if self._many == MOST_POINTS:
            raise TooMany(MOST_POINTS)
        self._many = self._many + 1
        self._made.append((source, self._many - 1, action))
        return self._many - 1
