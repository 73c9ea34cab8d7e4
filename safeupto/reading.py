"""Lines of programs that are read, by their form alone."""

from safeupto.errors import ParseError
from safeupto.kinds import is_name
from safeupto.statements import MOST_LEVELS

LONGEST_INTEGER = 31
# The kinds of the words behind the first one: n a name, i an integer. A set has words of its own.
KINDS = {
    "var": "nii", "param": "nii", "array": "ni", "width": "ni", "proc": "n", "main": "",
    "input": "nii", "call": "n", "place": "n", "read": "nn", "guard": "nnii",
    "either": "", "or": "", "loop": "n", "end": "",
}
HEADS = ("var", "param", "array", "width", "proc", "main")
PLAIN = ("set", "input", "call", "place", "read", "guard")
AROUND = ("either", "loop")


def read_integer(word):
    """The integer that is written like this, or None."""
    digits = word.removeprefix("-")
    if not (digits.isascii() and digits.isdigit()) or len(digits) > LONGEST_INTEGER:
        return None
    if digits[0] == "0" and word != "0":
        return None
    return int(word)


def read_part(word, parameters):
    """The part of a set that is written like this, or None; parameters has their names as keys."""
    number = read_integer(word)
    if number is not None:
        return (None, number)
    if is_name(word):
        return (None, word) if word in parameters else (word, 0)
    variable, _, constant = word.partition("+")
    if is_name(variable):
        return (variable, constant) if is_name(constant) else with_number(variable, constant, 1)
    variable, _, constant = word.partition("-")
    return with_number(variable, constant, -1) if is_name(variable) else None


def with_number(variable, word, sign):
    """The part of a variable with the number behind the sign, or None: the number 0 is not written."""
    number = read_integer(word)
    if number is None or number <= 0:
        return None
    return (variable, sign * number)


def read_words(words, kinds):
    """The list of the names and integers that are written like this, or None."""
    if len(words) != len(kinds):
        return None
    found = []
    for word, kind in zip(words, kinds):
        thing = read_integer(word) if kind == "i" else word
        if thing is None or (kind == "n" and not is_name(word)):
            return None
        found.append(thing)
    return found


def read_set(words, parameters):
    """The variable and the parts that are written like this, in a list, or None."""
    if len(words) < 2 or not is_name(words[0]):
        return None
    parts = [read_part(word, parameters) for word in words[1:]]
    if None in parts:
        return None
    return [words[0], tuple(parts)]


class Reader:
    """Reads the lines of a program from the first one on."""

    def __init__(self, lines):
        self._lines = lines
        self._at = 0
        self._parameters = {}

    def read(self):
        """A dict from the words of HEADS to lists of what these lines say, and for main to its body."""
        found = {"var": [], "param": [], "array": [], "width": [], "proc": []}
        standing = HEADS
        row = self._take(standing)
        while row[0] != "main":
            word = row[0]
            if word == "proc":
                row = (word, row[1], self._body(MOST_LEVELS, "end"))
            if word == "param":
                self._parameters[row[1]] = True
            found[word].append(row[1:])
            standing = standing[standing.index(word):]
            row = self._take(standing)
        found["main"] = self._body(MOST_LEVELS, "end")
        if self._at < len(self._lines):
            raise ParseError(self._at)
        return found

    def _body(self, levels, last):
        """The statements up to a line with the word last; so many levels may be inside of each other."""
        found = []
        standing = (*PLAIN, *AROUND, last) if levels > 1 else (*PLAIN, last)
        row = self._take(standing)
        while row[0] != last:
            if row[0] == "either":
                row = ("either", self._body(levels - 1, "or"), self._body(levels - 1, "end"))
            elif row[0] == "loop":
                row = (*row, self._body(levels - 1, "end"))
            found.append(row)
            row = self._take(standing)
        return tuple(found)

    def _take(self, standing):
        """What the next line says, a tuple; its first word is one of standing."""
        if self._at == len(self._lines):
            raise ParseError(self._at)
        words = self._lines[self._at].split(" ")
        word = words[0]
        if word not in standing:
            raise ParseError(self._at)
        if word == "set":
            things = read_set(words[1:], self._parameters)
        else:
            things = read_words(words[1:], KINDS[word])
        if things is None:
            raise ParseError(self._at)
        self._at = self._at + 1
        return (word, *things)
