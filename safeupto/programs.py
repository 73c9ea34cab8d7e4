"""Bodies and programs."""

from safeupto.errors import InvalidBody, InvalidName, InvalidNumber, InvalidProgram
from safeupto.kinds import GREATEST, is_name, is_range, is_within
from safeupto.memory import keep
from safeupto.naming import names_told
from safeupto.rewriting import numbered, opposite
from safeupto.statements import look_at, numbered_look, opposite_look

MOST_VARIABLES = 4
MOST_PROCEDURES = 4
MOST_PARAMETERS = 3
MOST_ARRAYS = 3
MOST_WIDTHS = 4
LEAST_BITS = 2
MOST_BITS = 64
# What a copy begins with: the variables of a program that is looked at quickly.
SMALLEST = (("x", 0, 0),)


def is_body(value):
    """Whether the value is a body; names are any names."""
    return look_at(value) is not None


def is_plain(value):
    """Whether the value is a program without parameters."""
    return isinstance(value, Program) and value._parameters == ()


def are_rows(rows, most):
    """Whether rows is a list or tuple of at most so many things."""
    return isinstance(rows, (list, tuple)) and len(rows) <= most


def is_named(row, length):
    """Whether the row is a tuple of this length that begins with a name."""
    return isinstance(row, tuple) and len(row) == length and is_name(row[0])


def are_ranges(rows, most):
    """Whether these are at most so many tuples (name, low, high)."""
    if not are_rows(rows, most):
        return False
    for row in rows:
        if not is_named(row, 3) or not is_range(row[1], row[2]):
            return False
    return True


def looks_at(rows):
    """The looks at the bodies of the procedures of a program; None if they are not of their form."""
    if not are_rows(rows, MOST_PROCEDURES):
        return None
    found = []
    for row in rows:
        look = look_at(row[1]) if is_named(row, 2) else None
        if look is None:
            return None
        found.append(look)
    return found


def are_counted(rows, most, low, high):
    """Whether these are at most so many tuples of a name and an integer from low to high."""
    if not are_rows(rows, most):
        return False
    for row in rows:
        if not is_named(row, 2) or not is_within(row[1], low, high):
            return False
    return True


def are_arrays(rows):
    """Whether these are the arrays of a program by their form."""
    return are_counted(rows, MOST_ARRAYS, 1, GREATEST)


def are_widths(rows):
    """Whether these are the widths of a program by their form."""
    if not are_counted(rows, MOST_WIDTHS, LEAST_BITS, MOST_BITS):
        return False
    return len(rows) < 2 or len({variable for variable, _ in rows}) == len(rows)


def looks_for(variables, main, procedures, parameters, arrays, widths):
    """The looks at main and at the bodies of the procedures.

    Raises InvalidProgram with the first argument that is not of its form by itself.
    """
    if not are_ranges(variables, MOST_VARIABLES) or len(variables) == 0:
        raise InvalidProgram(variables)
    first = look_at(main)
    if first is None:
        raise InvalidProgram(main)
    rest = looks_at(procedures)
    if rest is None:
        raise InvalidProgram(procedures)
    if not are_ranges(parameters, MOST_PARAMETERS):
        raise InvalidProgram(parameters)
    if not are_arrays(arrays):
        raise InvalidProgram(arrays)
    if not are_widths(widths):
        raise InvalidProgram(widths)
    return [first, *rest]


def are_single(looks):
    """Whether every set in the bodies at which was looked has one part."""
    for look in looks:
        if len(look[5]) > 0:
            return False
    return True


def are_values(values, parameters):
    """Whether values is a dict from exactly the names of the parameters to numbers in their ranges."""
    if not isinstance(values, dict) or len(values) != len(parameters):
        return False
    # The keys may be any objects, so no name is looked up before all of them are known to be names.
    if not all([is_name(name) for name in values]):
        return False
    return all([name in values and is_within(values[name], low, high) for name, low, high in parameters])


class Program:
    """A program; it never changes."""

    def __init__(self, variables, main, *, procedures=(), parameters=(), arrays=(), widths=()):
        looks = looks_for(variables, main, procedures, parameters, arrays, widths)
        self._variables = tuple(variables)
        self._parameters = tuple(parameters)
        self._arrays = tuple(arrays)
        self._widths = tuple(widths)
        self._names = tuple([name for name, _, _ in variables])
        self._memory = {}
        self._put(main, tuple(procedures), looks)

    def _put(self, main, procedures, looks):
        """Puts these bodies in their places, at all of which was looked; raises the errors of their names."""
        told = names_told(self._variables, procedures, self._parameters, self._arrays, self._widths, main, looks)
        self._main = main
        self._procedures = procedures
        self._looks = looks
        self._loops = tuple(told["loop"])
        self._places = tuple(told["place"])
        self._guards = tuple(told["guard"])
        self._is_single = are_single(looks)

    @property
    def variables(self):
        """The tuple of the tuples (name, low, high) of the variables."""
        return self._variables

    @property
    def main(self):
        """The body of main."""
        return self._main

    @property
    def procedures(self):
        """The tuple of the tuples (name, body) of the procedures."""
        return self._procedures

    @property
    def parameters(self):
        """The tuple of the tuples (name, low, high) of the parameters."""
        return self._parameters

    @property
    def arrays(self):
        """The tuple of the tuples (name, length) of the arrays."""
        return self._arrays

    @property
    def widths(self):
        """The tuple of the tuples (variable, bits)."""
        return self._widths

    @property
    def names(self):
        """The tuple of the names of the variables."""
        return self._names

    @property
    def loops(self):
        """The tuple of the names of the loops."""
        return self._loops

    @property
    def places(self):
        """The tuple of the names of the places, each once."""
        return self._places

    @property
    def guards(self):
        """The tuple of the names of the guards."""
        return self._guards

    @property
    def is_single(self):
        """Whether every set has one part."""
        return self._is_single

    def __eq__(self, other):
        return (isinstance(other, Program) and self._variables == other._variables
                and self._main == other._main and self._procedures == other._procedures
                and self._parameters == other._parameters and self._arrays == other._arrays
                and self._widths == other._widths)

    def body_of(self, name):
        """The body of a procedure or of main."""
        if not is_name(name):
            raise InvalidName(name)
        if name == "main":
            return self._main
        for procedure, body in self._procedures:
            if procedure == name:
                return body
        raise InvalidName(name)

    def replaced(self, name, body):
        """The program with another body of this name."""
        self.body_of(name)
        look = look_at(body)
        if look is None:
            raise InvalidBody(body)
        main = body if name == "main" else self._main
        procedures = tuple([(one, body if one == name else old) for one, old in self._procedures])
        names = ["main", *[one for one, _ in procedures]]
        other = self._copy()
        other._put(main, procedures, [look if one == name else old for one, old in zip(names, self._looks)])
        return other

    def given(self, values):
        """The program without parameters, with these numbers in their places."""
        if not are_values(values, self._parameters):
            raise InvalidNumber(values)
        other = self._copy()
        other._parameters = ()
        other._looks = [numbered_look(look) for look in self._looks]
        other._main = numbered(self._main, values)
        other._procedures = tuple([(name, numbered(body, values)) for name, body in self._procedures])
        return other

    def mirrored(self):
        """The program in which every variable has the opposite sign."""
        if len(self._parameters) > 0 or not self._is_single:
            raise InvalidProgram(self)
        other = self._copy()
        other._variables = tuple([(name, -high, -low) for name, low, high in self._variables])
        other._looks = [opposite_look(look) for look in self._looks]
        other._main = opposite(self._main)
        other._procedures = tuple([(name, opposite(body)) for name, body in self._procedures])
        other._arrays, other._widths, other._guards = (), (), ()
        return other

    def recalled(self, key):
        """What was remembered with a key, or None."""
        return self._memory[key] if key in self._memory else None

    def remember(self, key, found):
        """Remembers what was found out about the program, which never changes, and returns it."""
        return keep(self._memory, key, found)

    def beginning_with(self, name):
        """The program whose main is the body of this name; what stands in it stands twice then."""
        other = self._copy()
        other._main = self.body_of(name)
        return other

    def _copy(self):
        """The same program as another object, which is not looked at anew."""
        other = Program(SMALLEST, ())
        other._variables, other._names = self._variables, self._names
        other._main, other._procedures, other._looks = self._main, self._procedures, self._looks
        other._parameters, other._arrays, other._widths = self._parameters, self._arrays, self._widths
        other._loops, other._places, other._guards = self._loops, self._places, self._guards
        other._is_single = self._is_single
        return other
