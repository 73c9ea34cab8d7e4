"""Bodies and programs."""

from safeupto.errors import InvalidBody, InvalidName, InvalidNumber, InvalidProgram
from safeupto.kinds import GREATEST, is_name, is_range, is_row, is_within
from safeupto.naming import check_names
from safeupto.rewriting import numbered, opposite
from safeupto.statements import MOST_LEVELS, count_in_body, flat

MOST_VARIABLES = 4
MOST_PROCEDURES = 4
MOST_PARAMETERS = 3
MOST_ARRAYS = 3
MOST_WIDTHS = 4
LEAST_BITS = 2
MOST_BITS = 64


def is_body(value):
    """Whether the value is a body; names are any names."""
    return count_in_body(value, MOST_LEVELS) is not None


def are_named(rows, most, length):
    """Whether rows is a list or tuple of at most so many tuples of this length that begin with a name."""
    if not is_row(rows) or len(rows) > most:
        return False
    return all([isinstance(row, tuple) and len(row) == length and is_name(row[0]) for row in rows])


def are_ranges(rows, most):
    """Whether these are at most so many tuples (name, low, high)."""
    return are_named(rows, most, 3) and all([is_range(low, high) for _, low, high in rows])


def are_procedures(rows):
    """Whether these are the procedures of a program by their form."""
    return are_named(rows, MOST_PROCEDURES, 2) and all([is_body(body) for _, body in rows])


def are_arrays(rows):
    """Whether these are the arrays of a program by their form."""
    return are_named(rows, MOST_ARRAYS, 2) and all([is_within(length, 1, GREATEST) for _, length in rows])


def are_widths(rows):
    """Whether these are the widths of a program by their form."""
    if not are_named(rows, MOST_WIDTHS, 2):
        return False
    if not all([is_within(bits, LEAST_BITS, MOST_BITS) for _, bits in rows]):
        return False
    return len({variable for variable, _ in rows}) == len(rows)


def check_forms(variables, main, procedures, parameters, arrays, widths):
    """Raises InvalidProgram with the first one that is not of its form by itself."""
    if not are_ranges(variables, MOST_VARIABLES) or len(variables) == 0:
        raise InvalidProgram(variables)
    if not is_body(main):
        raise InvalidProgram(main)
    if not are_procedures(procedures):
        raise InvalidProgram(procedures)
    if not are_ranges(parameters, MOST_PARAMETERS):
        raise InvalidProgram(parameters)
    if not are_arrays(arrays):
        raise InvalidProgram(arrays)
    if not are_widths(widths):
        raise InvalidProgram(widths)


def names_given(statements, word):
    """The names that statements with this word give, each once, in their order."""
    found = {}
    for statement in statements:
        if statement[0] == word:
            found[statement[1]] = True
    return tuple(found)


def are_values(values, parameters):
    """Whether values is a dict from exactly the names of the parameters to numbers in their ranges."""
    if not isinstance(values, dict) or len(values) != len(parameters):
        return False
    # The keys may be any objects, so no name is looked up before all of them are known to be names.
    if not all([is_name(name) for name in values]):
        return False
    return all([name in values and is_within(values[name], low, high) for name, low, high in parameters])


class Program:
    """A program; it never changes."""

    def __init__(self, variables, main, *, procedures=(), parameters=(), arrays=(), widths=()):
        check_forms(variables, main, procedures, parameters, arrays, widths)
        check_names(variables, main, procedures, parameters, arrays, widths)
        self._variables = tuple(variables)
        self._main = main
        self._procedures = tuple(procedures)
        self._parameters = tuple(parameters)
        self._arrays = tuple(arrays)
        self._widths = tuple(widths)
        self._names = tuple([name for name, _, _ in variables])
        statements = flat(main)
        for _, body in procedures:
            statements.extend(flat(body))
        self._loops = names_given(statements, "loop")
        self._places = names_given(statements, "place")
        self._guards = names_given(statements, "guard")
        self._is_single = all([len(one[2]) == 1 for one in statements if one[0] == "set"])

    @property
    def variables(self):
        """The tuple of the tuples (name, low, high) of the variables."""
        return self._variables

    @property
    def main(self):
        """The body of main."""
        return self._main

    @property
    def procedures(self):
        """The tuple of the tuples (name, body) of the procedures."""
        return self._procedures

    @property
    def parameters(self):
        """The tuple of the tuples (name, low, high) of the parameters."""
        return self._parameters

    @property
    def arrays(self):
        """The tuple of the tuples (name, length) of the arrays."""
        return self._arrays

    @property
    def widths(self):
        """The tuple of the tuples (variable, bits)."""
        return self._widths

    @property
    def names(self):
        """The tuple of the names of the variables."""
        return self._names

    @property
    def loops(self):
        """The tuple of the names of the loops."""
        return self._loops

    @property
    def places(self):
        """The tuple of the names of the places, each once."""
        return self._places

    @property
    def guards(self):
        """The tuple of the names of the guards."""
        return self._guards

    @property
    def is_single(self):
        """Whether every set has one part."""
        return self._is_single

    def __eq__(self, other):
        return (isinstance(other, Program) and self._variables == other._variables
                and self._main == other._main and self._procedures == other._procedures
                and self._parameters == other._parameters and self._arrays == other._arrays
                and self._widths == other._widths)

    def body_of(self, name):
        """The body of a procedure or of main."""
        if not is_name(name):
            raise InvalidName(name)
        if name == "main":
            return self._main
        for procedure, body in self._procedures:
            if procedure == name:
                return body
        raise InvalidName(name)

    def replaced(self, name, body):
        """The program with another body of this name."""
        self.body_of(name)
        if not is_body(body):
            raise InvalidBody(body)
        main = body if name == "main" else self._main
        procedures = [(one, body if one == name else old) for one, old in self._procedures]
        return Program(self._variables, main, procedures=procedures, parameters=self._parameters,
                       arrays=self._arrays, widths=self._widths)

    def given(self, values):
        """The program without parameters, with these numbers in their places."""
        if not are_values(values, self._parameters):
            raise InvalidNumber(values)
        procedures = [(name, numbered(body, values)) for name, body in self._procedures]
        return Program(self._variables, numbered(self._main, values), procedures=procedures,
                       arrays=self._arrays, widths=self._widths)

    def mirrored(self):
        """The program in which every variable has the opposite sign."""
        if len(self._parameters) > 0 or not self._is_single:
            raise InvalidProgram(self)
        variables = [(name, -high, -low) for name, low, high in self._variables]
        procedures = [(name, opposite(body)) for name, body in self._procedures]
        return Program(variables, opposite(self._main), procedures=procedures)
