"""Lines of certificates and dossiers that are read, by their form alone."""

from safeupto.errors import ParseError
from safeupto.kinds import is_name
from safeupto.reading import DIGITS, Reader, read_integer
from safeupto.wording import read_count, read_place, read_size

# Integers are written with at most 80 digits.
GREATEST_TOLD = 10 ** 40 * 10 ** 40 - 1


class PaperReader:
    """Reads the lines of a text from the first one on."""

    def __init__(self, text):
        if not isinstance(text, str):
            raise ParseError(None)
        self._lines = text.split("\n")
        self._at = 0
        # Words come again and again, so each of them is looked at once. What cannot be told by a word is told as None.
        self._counts = dict(DIGITS)
        self._integers = dict(DIGITS)
        self._bounds = dict(DIGITS)
        self._bounds["endless"] = "endless"
        self._sides = {"-": None}
        self._nodes = {}
        self._pairs = {}
        self._steps = {}

    def first_line(self):
        """The size, the limit (None for ever) and the number of papers that the line of a dossier tells."""
        words = self._take("dossier", 5)
        size, limit, many = read_size(words[1], words[2]), read_limit(words[3]), read_count(words[4], GREATEST_TOLD)
        if size is None or (limit is None and words[3] != "ever") or many is None:
            raise ParseError(self._at - 1)
        return size, limit, many

    def program_told(self):
        """What the lines of the program tell, as a reader of programs finds it."""
        many = self._count(self._take("program", 2)[1])
        first = self._at
        self._at = min(len(self._lines), first + many)
        return Reader(self._lines, first, self._at).read()

    def next_paper(self):
        """The condition and the paper of the next lines, a tuple (word, rest ..)."""
        condition = self._condition(self._take("condition", 5))
        words = self._take(None, None)
        if words[0] == "heights" and len(words) == 2:
            return condition, ("heights", self._table(self._count(words[1]), 3, self._nodes, self._integers))
        if words[0] == "breaking" and len(words) == 5:
            size, most, many = self._size(words), self._count(words[3]), self._count(words[4])
            return condition, ("breaking", size, most, self._rules(many))
        if words[0] == "bounds" and len(words) == 6:
            size, most, many, levels = (self._size(words), self._count(words[3]), self._count(words[4]),
                                        self._count(words[5]))
            return condition, ("bounds", size, most, self._told_bounds(many, levels))
        raise ParseError(self._at - 1)

    def finish(self):
        """Raises ParseError unless all lines were read."""
        if self._at < len(self._lines):
            raise ParseError(self._at)

    def _take(self, first, many):
        """The list of the words of the next line, which are so many and begin with the first one; None is any."""
        at = self._at
        if at == len(self._lines):
            raise ParseError(at)
        words = self._lines[at].split(" ")
        if first is not None and words[0] != first or many is not None and len(words) != many:
            raise ParseError(at)
        self._at = at + 1
        return words

    def _count(self, word):
        """The count that is written like this in the line that was taken."""
        known = self._counts
        if word not in known:
            known[word] = read_count(word, GREATEST_TOLD)
        count = known[word]
        if count is None:
            raise ParseError(self._at - 1)
        return count

    def _size(self, words):
        """The size that is written behind the first one of these words, in the line that was taken."""
        size = read_size(words[1], words[2])
        if size is None:
            raise ParseError(self._at - 1)
        return size

    def _condition(self, words):
        place, most = read_place(words[1], GREATEST_TOLD), read_integer(words[4], GREATEST_TOLD)
        if place is None or most is None or not self._are_sides(words[2], words[3]):
            raise ParseError(self._at - 1)
        return (place, self._sides[words[2]], self._sides[words[3]], most)

    def _are_sides(self, plus, minus):
        """Whether both words stand for names or None."""
        sides = self._sides
        if plus not in sides and is_name(plus):
            sides[plus] = plus
        if minus not in sides and is_name(minus):
            sides[minus] = minus
        return plus in sides and minus in sides

    def _told_bounds(self, many, levels):
        """The tuple of the dict of so many bounds and the list of so many levels."""
        pairs, bounds, lines, sizes = self._pairs, self._bounds, self._lines, {}
        zero, found = self._table(many, 6, pairs, bounds), []
        while len(found) < levels:
            # Most levels begin with the same line.
            line = lines[self._at] if self._at < len(lines) else None
            if line in sizes:
                self._at = self._at + 1
            else:
                sizes[line] = self._count(self._take("level", 2)[1])
            found.append(self._table(sizes[line], 6, pairs, bounds))
        return zero, found

    def _table(self, many, length, keys, numbers):
        """The dict of so many lines: from a node, or two, which are so many words, to an integer, or a bound.

        What was read already is in keys and numbers.
        """
        found, first, is_right = {}, self._at, True
        lines = self._lines[first:first + many]
        for line in lines:
            ahead, _, word = line.rpartition(" ")
            if ahead not in keys:
                keys[ahead] = self._nodes_told(ahead.split(" "), length)
                is_right = is_right and keys[ahead] is not None
            if word not in numbers:
                numbers[word] = read_integer(word, GREATEST_TOLD)
                is_right = is_right and numbers[word] is not None
            found[keys[ahead]] = numbers[word]
        if not is_right or len(found) < many:
            raise ParseError(first + first_wrong(lines, keys, numbers))
        self._at = first + many
        return found

    def _rules(self, many):
        """The list of so many rules of a short run."""
        found, first = [], self._at
        lines = self._lines[first:first + many]
        # Right rules tell of no others than these.
        counts = {str(at): at for at in range(len(lines))}
        for line in lines:
            words = line.split(" ")
            if words[0] == "both" and len(words) == 3:
                _, one, other = words
                if one not in counts:
                    counts[one] = read_count(one, GREATEST_TOLD)
                if other not in counts:
                    counts[other] = read_count(other, GREATEST_TOLD)
                rule = ("both", counts[one], counts[other])
            else:
                rule = self._walk(words)
            if rule[1] is None or rule[2] is None:
                raise ParseError(first + len(found))
            found.append(rule)
        self._at = first + len(lines)
        if len(lines) < many:
            raise ParseError(self._at)
        return found

    def _walk(self, words):
        """The rule of a walk that is written with these words, with None for what is not as written."""
        if words[0] != "walk" or len(words) < 4:
            return ("walk", None, None)
        steps, known = words[4:], self._steps
        for word in steps:
            if word not in known:
                known[word] = self._nodes_told(word.split(":"), 3)
        found = tuple([known[word] for word in steps])
        return ("walk", self._node(words[1], words[2], words[3]), None if None in found else found)

    def _nodes_told(self, words, length):
        """The node, or the tuple of two nodes, that so many words, 3 or 6, stand for; None if they do not."""
        if len(words) != length:
            return None
        if length == 3:
            return self._node(words[0], words[1], words[2])
        first, second = self._node(words[0], words[1], words[2]), self._node(words[3], words[4], words[5])
        return None if first is None or second is None else (first, second)

    def _node(self, point, plus, minus):
        """The node that three words stand for, or None."""
        counts, sides = self._counts, self._sides
        if point not in counts:
            counts[point] = read_count(point, GREATEST_TOLD)
        if counts[point] is None or not (plus in sides and minus in sides or self._are_sides(plus, minus)):
            return None
        return (counts[point], sides[plus], sides[minus])


def first_wrong(lines, keys, numbers):
    """The index of the first line of a table that is wrong, or their number: what their words stand for is known."""
    met = {}
    for at, line in enumerate(lines):
        ahead, _, word = line.rpartition(" ")
        if keys[ahead] is None or numbers[word] is None or ahead in met:
            return at
        met[ahead] = True
    return len(lines)


def read_limit(word):
    """The count or -1 that is written like this, or None."""
    return -1 if word == "-1" else read_count(word, GREATEST_TOLD)
