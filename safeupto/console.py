"""The console: commands about one program, each a line, and their answers."""

from safeupto.conditions import is_size
from safeupto.errors import InvalidCommand, InvalidSize
from safeupto.formats import parse_program
from safeupto.graphs import graph_of
from safeupto.guards import least_guards
from safeupto.limits import limit
from safeupto.rates import rate
from safeupto.reading import GREATEST_WRITTEN, read_integer
from safeupto.values import greatest
from safeupto.wishes import safe_up_to
from safeupto.wording import is_side_word, limit_word, read_place, read_size, side_of

STEPS = ("steps", None)
# What words follow the first one of a command. Those behind load and size are looked at elsewhere.
WORDS = {
    "limit": ("place", "side", "side", "integer"), "rate": ("place", "side", "side"), "safe": (), "points": (),
    "greatest": ("place", "side", "side", "integer"), "guards": ("place", "side", "integer"),
}


def are_right(words):
    """Whether these are the words of a command other than load."""
    if words[0] == "size":
        return len(words) == 3 and read_size(words[1], words[2]) is not None
    kinds = WORDS.get(words[0])
    if kinds is None or len(kinds) != len(words) - 1:
        return False
    return all([is_right(kind, word) for kind, word in zip(kinds, words[1:])])


def is_right(kind, word):
    """Whether a word is of this kind."""
    if kind == "place":
        return read_place(word, GREATEST_WRITTEN) is not None
    return is_side_word(word) if kind == "side" else read_integer(word) is not None


class Console:
    """Has one program at a time, none at first, and a size."""

    def __init__(self):
        self._program = None
        self._counted = STEPS

    def run(self, line):
        """The answer to a command, which is performed."""
        words = line.split(" ") if isinstance(line, str) and "\n" not in line else [""]
        if "" in words:
            raise InvalidCommand(line)
        if words[0] == "load" and len(words) > 1:
            self._program = parse_program(line.removeprefix("load ").replace("; ", "\n"))
            self._counted = STEPS
            return "ok"
        if not are_right(words) or self._program is None:
            raise InvalidCommand(line)
        if words[0] in ("size", "safe", "points"):
            return self._about_program(words)
        place, plus = read_place(words[1], GREATEST_WRITTEN), side_of(words[2])
        if words[0] == "guards":
            found = least_guards(self._program, (place, plus, None, read_integer(words[3])))
            return "none" if found is None else " ".join([str(found[0]), *found[1]])
        return self._about_values(words, place, plus, side_of(words[3]))

    def _about_program(self, words):
        """The answer to a command without a condition."""
        if words[0] == "safe":
            return limit_word(safe_up_to(self._program, self._counted).size)
        graph = graph_of(self._program)
        if words[0] == "points":
            return str(graph.points)
        size = read_size(words[1], words[2])
        if not is_size(self._program, size):
            raise InvalidSize(size)
        self._counted = size
        return "ok"

    def _about_values(self, words, place, plus, minus):
        """The answer to a command about plus minus minus at a place."""
        program, size = self._program, self._counted
        if words[0] == "limit":
            return limit_word(limit(program, (place, plus, minus, read_integer(words[4])), size).size)
        if words[0] == "rate":
            found = rate(program, (place, plus, minus, 0), size)
            return found if found == "endless" else f"{found[0]}/{found[1]}"
        found = greatest(program, (place, plus, minus, 0), size, read_integer(words[4]))
        return "none" if found is None else str(found)
