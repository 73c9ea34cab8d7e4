"""Changes of programs: which papers are still accepted, which limits moved, and an editor."""

from safeupto.conditions import is_condition_in, is_size
from safeupto.errors import (InvalidCondition, InvalidPaper, InvalidProgram, InvalidSize, NothingToRedo, NothingToUndo,
                             SafeError, TooMany)
from safeupto.graphs import graph_of
from safeupto.guards import is_broken_by, is_capped_heights
from safeupto.kinds import is_row
from safeupto.limits import is_breaking, limit
from safeupto.papers import is_bounds, is_heights
from safeupto.programs import Program, is_plain
from safeupto.rates import is_rate


def is_accepted(program, value):
    """Whether the value is a paper that a program, of which there is a graph, accepts."""
    if not isinstance(value, tuple) or len(value) == 0 or not isinstance(value[0], str):
        return False
    try:
        return is_recognized(program, value[0], value)
    except (SafeError, TooMany):
        return False


def is_recognized(program, word, value):
    """Whether the function for this word recognizes what stands behind it; raises its errors."""
    if len(value) == 3:
        return word == "heights" and is_heights(program, value[1], value[2])
    if len(value) == 4:
        if word == "rate":
            return is_rate(program, value[1], value[2], value[3])
        if word == "guards":
            return is_broken_by(program, value[1], value[2], value[3])
        return word == "capped" and is_capped_heights(program, value[1], value[2], value[3])
    if len(value) == 5:
        if word == "bounds":
            return is_bounds(program, value[1], value[2], value[3], value[4])
        return word == "breaking" and is_breaking(program, value[1], value[2], value[3], value[4])
    return False


def is_paper(program, value):
    """Whether the value is a paper that the program accepts."""
    graph_of(program)
    return is_accepted(program, value)


def kept(program, papers):
    """The list that tells which of these papers the program accepts."""
    graph_of(program)
    if not is_row(papers):
        raise InvalidPaper(papers)
    return [is_accepted(program, paper) for paper in papers]


def moved(first, second, conditions, size):
    """The list of the tuples (condition, Limit in first, Limit in second) of the conditions whose Limits differ."""
    for program in (first, second):
        if not is_plain(program):
            raise InvalidProgram(program)
    graphs = [(program, graph_of(program)) for program in (first, second)]
    if not is_row(conditions):
        raise InvalidCondition(conditions)
    for condition in conditions:
        if not all([is_condition_in(program, graph, condition) for program, graph in graphs]):
            raise InvalidCondition(condition)
    if not is_size(first, size) or not is_size(second, size):
        raise InvalidSize(size)
    found = [(condition, limit(first, condition, size), limit(second, condition, size)) for condition in conditions]
    return [row for row in found if row[1] != row[2]]


def are_changes(value):
    """Whether the value is a list or tuple of tuples (name, body), whatever these are."""
    return is_row(value) and all([isinstance(one, tuple) and len(one) == 2 for one in value])


class Moment:
    """What an editor is at some time: its program, and those that can be put in its place."""

    def __init__(self, now, past, future):
        self.now = now
        self.past = past
        self.future = future


class Editor:
    """Changes a program, and takes changes back."""

    def __init__(self, program):
        if not isinstance(program, Program):
            raise InvalidProgram(program)
        self.now = program
        self.past = ()
        self.future = ()

    @property
    def program(self):
        """The program as it is now."""
        return self.now

    def replace(self, name, body):
        """Puts the program with another body of this name in its place."""
        changed = self.now.replaced(name, body)
        self.past, self.now, self.future = (*self.past, self.now), changed, ()

    def undo(self):
        """Takes the last change back."""
        if len(self.past) == 0:
            raise NothingToUndo()
        self.past, self.now, self.future = self.past[:-1], self.past[-1], (*self.future, self.now)

    def redo(self):
        """Does the change again that was taken back last."""
        if len(self.future) == 0:
            raise NothingToRedo()
        self.past, self.now, self.future = (*self.past, self.now), self.future[-1], self.future[:-1]

    def trial(self):
        """What a block begins with whose changes are taken back at its end, unless they are accepted."""
        return Trial(self)

    def attempt(self, changes, accept):
        """Carries out changes in a trial, accepts it if accept is True itself; returns the program behind them."""
        if not are_changes(changes):
            raise InvalidProgram(changes)
        with self.trial() as trial:
            for name, body in changes:
                self.replace(name, body)
            if accept is True:
                trial.accept()
            found = self.now
        return found


class Trial:
    """Changes of an editor in a block; at its end the editor is again as it was before, unless they are accepted."""

    def __init__(self, editor):
        self._editor = editor
        self._begin()

    def _begin(self):
        editor = self._editor
        self._before = Moment(editor.now, editor.past, editor.future)
        # What the editor becomes at the end: this program, past and future.
        self._behind = self._before
        self._past = editor.past
        self._future = editor.future

    def accept(self):
        """Makes the program that the editor has at the end of the block stay, as one change."""
        before = self._before
        self._behind = self._editor
        self._past = (*before.past, before.now)
        self._future = ()

    def __enter__(self):
        self._begin()
        return self

    def __exit__(self, kind, value, trace):
        editor = self._editor
        before = self._before
        behind = self._behind
        if kind is None:
            editor.now = behind.now
            editor.past = self._past
            editor.future = self._future
        else:
            editor.now = before.now
            editor.past = before.past
            editor.future = before.future
