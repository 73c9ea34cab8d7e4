"""Exact sizes, and runs that break a condition just beyond."""

from safeupto.conditions import is_size
from safeupto.errors import InvalidNumber, InvalidPaper, InvalidSize, TooMany
from safeupto.kinds import is_integer
from safeupto.machine import Machine, Run
from safeupto.nets import ground_with
from safeupto.reckoning import reckoning_for
from safeupto.shortruns import Judge, worth_of_run
from safeupto.witnesses import breaking_rules

MOST_STEPS = 1000


class Limit:
    """The greatest count up to which something holds; None for ever, -1 not even up to 0."""

    def __init__(self, size):
        if size is not None and (not is_integer(size) or size < -1):
            raise InvalidNumber(size)
        self._size = size

    @property
    def size(self):
        """The count, None or -1."""
        return self._size

    def __contains__(self, x):
        return self._size is None or self._size >= x

    def __and__(self, other):
        if self._size is None:
            return Limit(other.size)
        return Limit(self._size if other.size is None else min(self._size, other.size))

    def __bool__(self):
        return bool(self._size != -1)

    def __eq__(self, other):
        return isinstance(other, Limit) and self._size == other._size

    def is_within(self, other):
        """Whether the other one holds wherever this one does."""
        if self._size is None or other.size is None:
            return other.size is None
        return self._size <= other.size


def limit(program, condition, size):
    """The Limit of a condition."""
    found = reckoning_for(program, condition, size).break_above(condition[3])
    return Limit(None if found is None else found[0] - 1)


def breaking(program, condition, size):
    """A short run that breaks a condition just beyond its limit; None if it holds for ever."""
    return breaking_rules(reckoning_for(program, condition, size), condition[3])


def is_breaking(program, condition, size, most, value):
    """Whether the value is a short run that breaks a condition with a count of at most most."""
    ground = ground_with(program, condition)
    if not is_size(program, size):
        raise InvalidSize(size)
    if not is_integer(most) or most < 0:
        raise InvalidNumber(most)
    told = Judge(ground, ground.counts_for(size), {}).follow(value)
    if told is None or told[-1][3] > most:
        return False
    worth = worth_of_run(ground, condition, told[-1])
    return worth is not None and worth > condition[3]


def as_run(program, condition, value):
    """A run along the edges of a short run, at the end of which the value is at least the start and sum."""
    ground = ground_with(program, condition)
    told = Judge(ground, ground.counts_for(None), {}).follow(value)
    if told is None or worth_of_run(ground, condition, told[-1]) is None:
        raise InvalidPaper(value)
    if told[-1][4] > MOST_STEPS:
        raise TooMany(MOST_STEPS)
    _, plus, _ = told[-1][0]
    numbers = tuple([high if name == plus else low for name, low, high in program.variables])
    return Run(Machine(program), numbers, ()).along(choices_of(ground, value, told))


def choices_of(ground, rules, told):
    """The list of the choices along the last of these rules."""
    # A walk can be gone many times, so what to choose along it is found once.
    edges = ground.chart.edges
    known = {at: [(step[0], number_for(edges[step[0]][2], step)) for step in rule[2]]
             for at, rule in enumerate(rules) if rule[0] == "walk"}
    found, waiting = [], [len(rules) - 1]
    while len(waiting) > 0:
        at = waiting.pop()
        word, first, second = rules[at]
        if word == "walk":
            found.extend(known[at])
        else:
            # What has no steps is let be: it can be joined more often than can be counted.
            waiting.extend([one for one in (second, first) if told[one][4] > 0])
    return found


def number_for(action, step):
    """The number of the choice for a step along an edge with this action: what makes plus minus minus great."""
    if action is None or action[0] != "input":
        return None
    return action[3] if action[1] == step[1] else action[2]
