"""What the names of a program stand for."""

from safeupto.errors import InvalidProgram
from safeupto.statements import flat


class Naming:
    """The names that were met, with what they stand for."""

    def __init__(self):
        self._meanings = {"main": "main"}

    def declare(self, meaning, rows):
        """Meets the first thing in each row; raises InvalidProgram with one that was met."""
        for row in rows:
            if row[0] in self._meanings:
                raise InvalidProgram(row[0])
            self._meanings[row[0]] = meaning

    def is_a(self, name, meaning):
        """Whether a name stands for this."""
        return self._meanings.get(name) == meaning

    def go_through(self, body, procedures):
        """Meets the names in a body that can call these procedures; raises InvalidProgram if one is wrong."""
        for statement in flat(body):
            if not self._fits(statement, procedures):
                raise InvalidProgram(body)

    def _fits(self, statement, procedures):
        """Meets the name that a statement gives; returns whether all of its names are right."""
        word = statement[0]
        if word == "set":
            return self.is_a(statement[1], "variable") and all([self._fits_part(part) for part in statement[2]])
        if word == "input":
            return self.is_a(statement[1], "variable")
        if word == "call":
            return statement[1] in procedures
        if word == "read":
            return self.is_a(statement[1], "array") and self.is_a(statement[2], "variable")
        if word == "guard":
            return self._meet(word, statement[1]) and self.is_a(statement[2], "variable")
        if word in ("loop", "place"):
            return self._meet(word, statement[1])
        return True

    def _fits_part(self, part):
        variable, constant = part
        if variable is not None and not self.is_a(variable, "variable"):
            return False
        return not isinstance(constant, str) or self.is_a(constant, "parameter")

    def _meet(self, meaning, name):
        """Meets a name; returns whether it may stand there. Only places share names."""
        if name in self._meanings:
            return meaning == "place" and self.is_a(name, "place")
        self._meanings[name] = meaning
        return True


def check_names(variables, main, procedures, parameters, arrays, widths):
    """Raises InvalidProgram with the first name, body or variable of widths that is wrong."""
    naming = Naming()
    naming.declare("variable", variables)
    naming.declare("procedure", procedures)
    naming.declare("parameter", parameters)
    naming.declare("array", arrays)
    behind = [name for name, _ in procedures]
    naming.go_through(main, behind)
    for _, body in procedures:
        behind = behind[1:]
        naming.go_through(body, behind)
    for variable, _ in widths:
        if not naming.is_a(variable, "variable"):
            raise InvalidProgram(variable)
