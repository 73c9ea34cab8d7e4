"""The console: commands about one program, each a line, and their answers."""

from safeupto.conditions import is_size
from safeupto.errors import InvalidCommand, InvalidSize
from safeupto.formats import parse_program
from safeupto.graphs import graph_of
from safeupto.guards import least_guards
from safeupto.kinds import is_name
from safeupto.limits import limit
from safeupto.rates import rate
from safeupto.reading import GREATEST_WRITTEN, read_integer
from safeupto.values import greatest
from safeupto.wishes import safe_up_to
from safeupto.wording import limit_word, read_count, read_size

STEPS = ("steps", None)
# How many words the commands have. Behind load there are any.
WORDS = {"size": 3, "limit": 5, "rate": 4, "greatest": 5, "safe": 1, "guards": 4, "points": 1}


class Console:
    """Has one program at a time, none at first, and a size."""

    def __init__(self):
        self._program = None
        self._counted = STEPS

    def run(self, line):
        """The answer to a command, which is performed."""
        if not isinstance(line, str) or "\n" in line:
            raise InvalidCommand(line)
        words = line.split(" ")
        if "" in words:
            raise InvalidCommand(line)
        word, many = words[0], len(words)
        if word == "load" and many > 1:
            self._program = parse_program(line.removeprefix("load ").replace("; ", "\n"))
            self._counted = STEPS
            return "ok"
        if word not in WORDS or WORDS[word] != many or self._program is None:
            raise InvalidCommand(line)
        found = self._about_values(words) if many > 3 else self._about_program(words)
        if found is None:
            raise InvalidCommand(line)
        return found

    def _about_program(self, words):
        """The answer to a command without a condition; None if its words are not right."""
        program = self._program
        if words[0] == "safe":
            return limit_word(safe_up_to(program, self._counted).size)
        if words[0] == "points":
            return str(graph_of(program).points)
        size = read_size(words[1], words[2])
        if size is None:
            return None
        graph_of(program)
        if not is_size(program, size):
            raise InvalidSize(size)
        self._counted = size
        return "ok"

    def _about_values(self, words):
        """The answer to a command with a condition; None if its words are not right."""
        program, size, word = self._program, self._counted, words[0]
        place, number = self._place_told(words[1]), 0 if word == "rate" else read_integer(words[-1])
        plus, minus = words[2], "-" if word == "guards" else words[3]
        if place is None or number is None or not self._is_side(plus) or not self._is_side(minus):
            return None
        plus, minus = None if plus == "-" else plus, None if minus == "-" else minus
        if word == "limit":
            return limit_word(limit(program, (place, plus, minus, number), size).size)
        if word == "greatest":
            found = greatest(program, (place, plus, minus, 0), size, number)
            return "none" if found is None else str(found)
        if word == "rate":
            found = rate(program, (place, plus, minus, 0), size)
            return found if found == "endless" else f"{found[0]}/{found[1]}"
        found = least_guards(program, (place, plus, None, number))
        return "none" if found is None else " ".join([str(found[0]), *found[1]])

    def _place_told(self, word):
        """The name or the point that is written like this, or None."""
        if word in self._program.places or is_name(word):
            return word
        return read_count(word, GREATEST_WRITTEN)

    def _is_side(self, word):
        """Whether a word stands for a name or None."""
        return word == "-" or word in self._program.names or is_name(word)
