"""Lines of certificates and dossiers that are read, by their form alone."""

from safeupto.errors import ParseError
from safeupto.reading import Reader, read_integer
from safeupto.wording import is_side_word, read_count, read_place, read_size, side_of

LONGEST = 80


class PaperReader:
    """Reads the lines of a text from the first one on."""

    def __init__(self, text):
        if not isinstance(text, str):
            raise ParseError(None)
        self._lines = text.split("\n")
        self._at = 0
        # Words of nodes and steps come again and again, so each of them is looked at once.
        self._nodes = {}
        self._steps = {}

    def first_line(self):
        """The size, the limit (None for ever) and the number of papers that the line of a dossier tells."""
        words = self._take("dossier", 5)
        size, limit, many = read_size(words[1], words[2]), read_limit(words[3]), read_count(words[4], LONGEST)
        if size is None or (limit is None and words[3] != "ever") or many is None:
            raise ParseError(self._at - 1)
        return size, limit, many

    def program_told(self):
        """What the lines of the program tell, as a reader of programs finds it."""
        many = self._count(self._take("program", 2)[1])
        first = self._at
        self._at = min(len(self._lines), first + many)
        return Reader(self._lines, first, self._at).read()

    def next_paper(self):
        """The condition and the paper of the next lines, a tuple (word, rest ..)."""
        condition = self._condition(self._take("condition", 5))
        words = self._take(None, None)
        if words[0] == "heights" and len(words) == 2:
            return condition, ("heights", self._heights(self._count(words[1])))
        if words[0] == "breaking" and len(words) == 5:
            size, most, many = self._size(words), self._count(words[3]), self._count(words[4])
            return condition, ("breaking", size, most, self._rules(many))
        if words[0] == "bounds" and len(words) == 6:
            size, most, many, levels = (self._size(words), self._count(words[3]), self._count(words[4]),
                                        self._count(words[5]))
            return condition, ("bounds", size, most, self._bounds(many, levels))
        raise ParseError(self._at - 1)

    def finish(self):
        """Raises ParseError unless all lines were read."""
        if self._at < len(self._lines):
            raise ParseError(self._at)

    def _take(self, first, many):
        """The list of the words of the next line, which are so many and begin with the first one; None is any."""
        at = self._at
        if at == len(self._lines):
            raise ParseError(at)
        words = self._lines[at].split(" ")
        if first is not None and words[0] != first or many is not None and len(words) != many:
            raise ParseError(at)
        self._at = at + 1
        return words

    def _count(self, word):
        """The count that is written like this in the line that was taken."""
        count = read_count(word, LONGEST)
        if count is None:
            raise ParseError(self._at - 1)
        return count

    def _size(self, words):
        """The size that is written behind the first one of these words, in the line that was taken."""
        size = read_size(words[1], words[2])
        if size is None:
            raise ParseError(self._at - 1)
        return size

    def _condition(self, words):
        place, most = read_place(words[1], LONGEST), read_integer(words[4], LONGEST)
        if place is None or most is None or not is_side_word(words[2]) or not is_side_word(words[3]):
            raise ParseError(self._at - 1)
        return (place, side_of(words[2]), side_of(words[3]), most)

    def _heights(self, many):
        """The dict of so many heights."""
        found = {}
        while len(found) < many:
            words = self._take(None, 4)
            node, height = self._node(words[0], words[1], words[2]), read_integer(words[3], LONGEST)
            if node in found or height is None:
                raise ParseError(self._at - 1)
            found[node] = height
        return found

    def _bounds(self, many, levels):
        """The tuple of the dict of so many bounds and the list of so many levels."""
        zero, found = self._pairs(many), []
        while len(found) < levels:
            found.append(self._pairs(self._count(self._take("level", 2)[1])))
        return zero, found

    def _pairs(self, many):
        """The dict from tuples of two nodes to so many bounds."""
        found = {}
        while len(found) < many:
            words = self._take(None, 7)
            pair = (self._node(words[0], words[1], words[2]), self._node(words[3], words[4], words[5]))
            bound = "endless" if words[6] == "endless" else read_integer(words[6], LONGEST)
            if pair in found or bound is None:
                raise ParseError(self._at - 1)
            found[pair] = bound
        return found

    def _node(self, point, plus, minus):
        """The node that is written with these words in the line that was taken."""
        words = (point, plus, minus)
        if words not in self._nodes:
            index = read_count(point, LONGEST)
            if index is None or not is_side_word(plus) or not is_side_word(minus):
                raise ParseError(self._at - 1)
            self._nodes[words] = (index, side_of(plus), side_of(minus))
        return self._nodes[words]

    def _rules(self, many):
        """The list of so many rules of a short run."""
        found = []
        while len(found) < many:
            words = self._take(None, None)
            if words[0] == "both" and len(words) == 3:
                found.append(("both", self._count(words[1]), self._count(words[2])))
            elif words[0] == "walk" and len(words) > 3:
                node = self._node(words[1], words[2], words[3])
                found.append(("walk", node, tuple([self._step(word) for word in words[4:]])))
            else:
                raise ParseError(self._at - 1)
        return found

    def _step(self, word):
        """The step that is written like this in the line that was taken."""
        if word not in self._steps:
            parts = word.split(":")
            if len(parts) != 3:
                raise ParseError(self._at - 1)
            self._steps[word] = self._node(parts[0], parts[1], parts[2])
        return self._steps[word]


def read_limit(word):
    """The count or -1 that is written like this, or None."""
    return -1 if word == "-1" else read_count(word, LONGEST)
