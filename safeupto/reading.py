"""Lines of programs that are read, by their form alone."""

from safeupto.errors import ParseError
from safeupto.kinds import is_name
from safeupto.statements import MOST_LEVELS

# Integers are written with at most 31 digits.
GREATEST_WRITTEN = 10 ** 31 - 1
# How many names, and how many integers behind them, follow the first word. A set has words of its own.
KINDS = {
    "var": (1, 2), "param": (1, 2), "array": (1, 1), "width": (1, 1), "proc": (1, 0), "main": (0, 0),
    "input": (1, 2), "call": (1, 0), "place": (1, 0), "read": (2, 0), "guard": (2, 2),
    "either": (0, 0), "or": (0, 0), "loop": (1, 0), "end": (0, 0),
}
HEADS = ("var", "param", "array", "width", "proc", "main")
PLAIN = ("set", "place", "input", "call", "read", "guard")


# Most integers are written with one digit.
DIGITS = {"0": 0, "1": 1, "2": 2, "3": 3, "4": 4, "5": 5, "6": 6, "7": 7, "8": 8, "9": 9}


def read_integer(word, greatest=GREATEST_WRITTEN):
    """The integer that is written like this, at most the greatest one, also without its sign, or None."""
    if word in DIGITS:
        return DIGITS[word]
    try:
        number = int(word)
    except ValueError:
        return None
    # More than is allowed here can be read as an integer, but an integer is written in one way.
    return number if -greatest <= number <= greatest and str(number) == word else None


def read_part(word, parameters):
    """The part of a set that is written like this, or None; parameters has their names as keys."""
    if "+" in word:
        variable, _, constant = word.partition("+")
        if not is_name(variable):
            return None
        return (variable, constant) if is_name(constant) else with_number(variable, constant, 1)
    if is_name(word):
        return (None, word) if word in parameters else (word, 0)
    variable, sign, constant = word.partition("-")
    if sign == "" or variable == "":
        number = read_integer(word)
        return None if number is None else (None, number)
    return with_number(variable, constant, -1) if is_name(variable) else None


def with_number(variable, word, sign):
    """The part of a variable with the number behind the sign, or None: the number 0 is not written."""
    number = read_integer(word)
    if number is None or number <= 0:
        return None
    return (variable, sign * number)


class Reader:
    """Reads the lines of a program, which are those from the index first on, up to one ahead of the index last."""

    def __init__(self, lines, first, last):
        self._lines = lines
        self._at = first
        self._last = last
        self._parameters = {}
        # What was read once is not looked at again: rows by their lines, the others by their words.
        self._rows = {"main": ("main",), "either": ("either",), "or": ("or",), "end": ("end",)}
        self._integers = dict(DIGITS)
        self._names = {}
        self._parts = {}

    def read(self):
        """A dict from the words of HEADS to lists of what these lines say, and for main to its body."""
        found = {"var": [], "param": [], "array": [], "width": [], "proc": []}
        standing = HEADS
        row = self._take()
        while row[0] != "main":
            word = row[0]
            if word not in standing:
                raise ParseError(self._at - 1)
            if word == "proc":
                row = (word, row[1], self._body(MOST_LEVELS, "end"))
            elif word == "param":
                self._parameters[row[1]] = True
            found[word].append(row[1:])
            standing = standing[standing.index(word):]
            row = self._take()
        found["main"] = self._body(MOST_LEVELS, "end")
        if self._at < self._last:
            raise ParseError(self._at)
        return found

    def _body(self, levels, last):
        """The statements up to a line with the word last; so many levels may be inside of each other."""
        found = []
        while True:
            row = self._take()
            word = row[0]
            if word in PLAIN:
                found.append(row)
            elif word == last:
                return tuple(found)
            elif word == "loop" and levels > 1:
                found.append((*row, self._body(levels - 1, "end")))
            elif word == "either" and levels > 1:
                found.append((word, self._body(levels - 1, "or"), self._body(levels - 1, "end")))
            else:
                raise ParseError(self._at - 1)

    def _take(self):
        """What the next line says, a tuple, whether or not it can stand there."""
        at = self._at
        if at == self._last:
            raise ParseError(at)
        line, rows = self._lines[at], self._rows
        if line not in rows:
            row = self._row(line.split(" "))
            if row is None:
                raise ParseError(at)
            rows[line] = row
        self._at = at + 1
        return rows[line]

    def _row(self, words):
        """The tuple of the first word and the names and integers that are written like this, or None."""
        word, known = words[0], self._names
        if word == "set":
            return self._set(words)
        if word not in KINDS:
            return None
        names, integers = KINDS[word]
        if len(words) != names + integers + 1:
            return None
        for name in words[1:names + 1]:
            if name not in known and not self._is_new(name):
                return None
        if integers == 0:
            return tuple(words)
        numbers, known = [], self._integers
        for other in words[names + 1:]:
            if other not in known:
                known[other] = read_integer(other)
            numbers.append(known[other])
        return None if None in numbers else (*words[:names + 1], *numbers)

    def _set(self, words):
        """The row of a set that is written with these words, or None."""
        if len(words) < 3 or words[1] not in self._names and not self._is_new(words[1]):
            return None
        found, known = [], self._parts
        for word in words[2:]:
            if word not in known:
                known[word] = read_part(word, self._parameters)
            found.append(known[word])
        return None if None in found else ("set", words[1], tuple(found))

    def _is_new(self, word):
        """Whether a word is a name, which is kept."""
        if is_name(word):
            self._names[word] = True
            return True
        return False
