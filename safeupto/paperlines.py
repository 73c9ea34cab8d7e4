"""Lines of certificates and dossiers that are read, by their form alone."""

from safeupto.errors import ParseError
from safeupto.reading import Reader, read_integer
from safeupto.wording import is_side_word, read_count, read_place, read_size, side_of

# Integers are written with at most 80 digits.
GREATEST_TOLD = 10 ** 40 * 10 ** 40 - 1


class PaperReader:
    """Reads the lines of a text from the first one on."""

    def __init__(self, text):
        if not isinstance(text, str):
            raise ParseError(None)
        self._lines = text.split("\n")
        self._at = 0
        # Words come again and again, so each of them is looked at once. What a word cannot stand for is None.
        self._counts = {}
        self._integers = {}
        self._bounds = {"endless": "endless"}
        self._nodes = {}
        self._pairs = {}
        self._steps = {}

    def first_line(self):
        """The size, the limit (None for ever) and the number of papers that the line of a dossier tells."""
        words = self._take("dossier", 5)
        size, limit, many = read_size(words[1], words[2]), read_limit(words[3]), read_count(words[4], GREATEST_TOLD)
        if size is None or (limit is None and words[3] != "ever") or many is None:
            raise ParseError(self._at - 1)
        return size, limit, many

    def program_told(self):
        """What the lines of the program tell, as a reader of programs finds it."""
        many = self._count(self._take("program", 2)[1])
        first = self._at
        self._at = min(len(self._lines), first + many)
        return Reader(self._lines, first, self._at).read()

    def next_paper(self):
        """The condition and the paper of the next lines, a tuple (word, rest ..)."""
        condition = self._condition(self._take("condition", 5))
        words = self._take(None, None)
        if words[0] == "heights" and len(words) == 2:
            return condition, ("heights", self._table(self._count(words[1]), 3, self._nodes, self._integers))
        if words[0] == "breaking" and len(words) == 5:
            size, most, many = self._size(words), self._count(words[3]), self._count(words[4])
            return condition, ("breaking", size, most, self._rules(many))
        if words[0] == "bounds" and len(words) == 6:
            size, most, many, levels = (self._size(words), self._count(words[3]), self._count(words[4]),
                                        self._count(words[5]))
            return condition, ("bounds", size, most, self._told_bounds(many, levels))
        raise ParseError(self._at - 1)

    def finish(self):
        """Raises ParseError unless all lines were read."""
        if self._at < len(self._lines):
            raise ParseError(self._at)

    def _take(self, first, many):
        """The list of the words of the next line, which are so many and begin with the first one; None is any."""
        at = self._at
        if at == len(self._lines):
            raise ParseError(at)
        words = self._lines[at].split(" ")
        if first is not None and words[0] != first or many is not None and len(words) != many:
            raise ParseError(at)
        self._at = at + 1
        return words

    def _count(self, word):
        """The count that is written like this in the line that was taken."""
        known = self._counts
        if word not in known:
            known[word] = read_count(word, GREATEST_TOLD)
        count = known[word]
        if count is None:
            raise ParseError(self._at - 1)
        return count

    def _size(self, words):
        """The size that is written behind the first one of these words, in the line that was taken."""
        size = read_size(words[1], words[2])
        if size is None:
            raise ParseError(self._at - 1)
        return size

    def _condition(self, words):
        place, most = read_place(words[1], GREATEST_TOLD), read_integer(words[4], GREATEST_TOLD)
        if place is None or most is None or not is_side_word(words[2]) or not is_side_word(words[3]):
            raise ParseError(self._at - 1)
        return (place, side_of(words[2]), side_of(words[3]), most)

    def _told_bounds(self, many, levels):
        """The tuple of the dict of so many bounds and the list of so many levels."""
        zero, found = self._table(many, 6, self._pairs, self._bounds), []
        while len(found) < levels:
            found.append(self._table(self._count(self._take("level", 2)[1]), 6, self._pairs, self._bounds))
        return zero, found

    def _table(self, many, length, keys, numbers):
        """The dict of so many lines: from a node, or two, which are so many words, to an integer, or a bound.

        What was read already is in keys and numbers.
        """
        found, first = {}, self._at
        lines = self._lines[first:first + many]
        for at, line in enumerate(lines, first):
            ahead, _, word = line.rpartition(" ")
            if ahead not in keys:
                keys[ahead] = nodes_told(ahead.split(" "), length)
            if word not in numbers:
                numbers[word] = read_integer(word, GREATEST_TOLD)
            key, number = keys[ahead], numbers[word]
            if key is None or number is None or key in found:
                raise ParseError(at)
            found[key] = number
        self._go_to(first + len(lines), first + many)
        return found

    def _rules(self, many):
        """The list of so many rules of a short run."""
        found, first, counts = [], self._at, self._counts
        lines = self._lines[first:first + many]
        for at, line in enumerate(lines, first):
            words = line.split(" ")
            if words[0] == "both" and len(words) == 3:
                for word in words[1:]:
                    if word not in counts:
                        counts[word] = read_count(word, GREATEST_TOLD)
                rule = ("both", counts[words[1]], counts[words[2]])
            else:
                rule = self._walk(words)
            if None in rule:
                raise ParseError(at)
            found.append(rule)
        self._go_to(first + len(lines), first + many)
        return found

    def _walk(self, words):
        """The rule of a walk that is written with these words, with None for what is not as written."""
        if words[0] != "walk" or len(words) < 4:
            return (None,)
        steps, known = words[4:], self._steps
        for word in steps:
            if word not in known:
                known[word] = nodes_told(word.split(":"), 3)
        found = tuple([known[word] for word in steps])
        return ("walk", node_told(words[1:4]), None if None in found else found)

    def _go_to(self, last, wished):
        """Goes on behind the lines that were read, the last one not included; raises ParseError if some are missing."""
        self._at = last
        if last < wished:
            raise ParseError(last)


def nodes_told(words, length):
    """The node, or the tuple of two nodes, that so many words, 3 or 6, stand for; None if they do not."""
    if len(words) != length:
        return None
    if length == 3:
        return node_told(words)
    first, second = node_told(words[:3]), node_told(words[3:])
    return None if first is None or second is None else (first, second)


def node_told(words):
    """The node that three words stand for, or None."""
    index = read_count(words[0], GREATEST_TOLD)
    if index is None or not is_side_word(words[1]) or not is_side_word(words[2]):
        return None
    return (index, side_of(words[1]), side_of(words[2]))


def read_limit(word):
    """The count or -1 that is written like this, or None."""
    return -1 if word == "-1" else read_count(word, GREATEST_TOLD)
