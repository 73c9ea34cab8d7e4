"""Summaries of procedures: how values change from the beginning of a body to its end, for the first counts."""

from safeupto.bounding import is_bound
from safeupto.conditions import is_size
from safeupto.errors import InvalidNumber, InvalidPaper, InvalidProgram, InvalidSize
from safeupto.grounds import Ground, Net
from safeupto.kinds import is_integer, is_name, is_within
from safeupto.layers import Layers
from safeupto.programs import is_plain

MOST_COUNT = 20


def summary(program, name, size, most):
    """The summary of a procedure, or of main, for counts up to most."""
    if not is_plain(program):
        raise InvalidProgram(program)
    program.body_of(name)
    if not is_size(program, size):
        raise InvalidSize(size)
    if not is_within(most, 0, MOST_COUNT):
        raise InvalidNumber(most)
    ground = Ground(program.beginning_with(name))
    sides, end = [None, *program.names], ground.chart.end
    net = Net(ground, [(end, ground.code_of(last, None)) for last in sides], ground.counts_for(size), True)
    layers = Layers(net)
    found = {}
    for first in sides:
        code = ground.code_of(first, None)
        rows = layers.rows_from(net.at(0, code) if net.has_node((0, first, None)) else None, most)
        for last in sides:
            if first is None or last is not None:
                found[(first, last)] = rows[net.at(end, ground.code_of(last, None))]
    return found


def is_summary(value):
    """Whether the value has the form of a summary."""
    if not isinstance(value, dict) or not all([is_pair(pair) for pair in value]):
        return False
    # Only now are all keys known to be such that others can be looked up.
    if (None, None) not in value:
        return False
    first = value[(None, None)]
    return are_entries(first) and all([are_entries(row) and len(row) == len(first) for row in list(value.values())])


def is_pair(value):
    """Whether the value is a tuple of two names or None, without None behind a name."""
    if not isinstance(value, tuple) or len(value) != 2:
        return False
    first, last = value
    return (first is None or is_name(first)) and (is_name(last) or (first is None and last is None))


def are_entries(value):
    """Whether the value is a tuple of 1 to 21 integers, None and "endless"."""
    if not isinstance(value, tuple) or not 0 < len(value) <= MOST_COUNT + 1:
        return False
    return all([one is None or is_bound(one) for one in value])


def joined(first, second):
    """The summary of doing first and then second."""
    if not is_summary(first):
        raise InvalidPaper(first)
    if not is_summary(second) or len(second[(None, None)]) != len(first[(None, None)]):
        raise InvalidPaper(second)
    leads = {}
    for middle, last in second:
        leads.setdefault(middle, []).append((last, told_apart(second[(middle, last)])))
    nothing = (None,) * len(first[(None, None)])
    found = {(begin, end): nothing for begin in firsts_of(first) for end in lasts_of(second)
             if begin is None or end is not None}
    for begin, middle in first:
        ahead = told_apart(first[(begin, middle)])
        for last, behind in leads.get(middle, []):
            found[(begin, last)] = tuple([greatest_entry(one, other) for one, other
                                          in zip(found[(begin, last)], split_sums(ahead, behind))])
    return found


def firsts_of(value):
    """A dict with the names, or None, from which a summary tells something."""
    return {first: True for first, _ in value}


def lasts_of(value):
    """A dict with the names, or None, to which a summary tells something."""
    return {last: True for _, last in value}


def told_apart(row):
    """The list of the tuples (place, integer) of a row, the first place with "endless", if any, and the length."""
    integers = [(at, one) for at, one in enumerate(row) if is_integer(one)]
    return integers, [at for at, one in enumerate(row) if isinstance(one, str)], len(row)


def split_sums(ahead, behind):
    """The list of the greatest sums of an entry of one row and an entry of the other, by both counts together."""
    integers, endless, many = ahead
    others, far, _ = behind
    found = [None] * many
    for at, one in integers:
        for place, other in others:
            if at + place < many and (found[at + place] is None or found[at + place] < one + other):
                found[at + place] = one + other
    there = [at for at, _ in integers]
    for at, place in [*couples(endless, far), *couples(endless, [at for at, _ in others]), *couples(there, far)]:
        if at + place < many:
            found[at + place] = "endless"
    return found


def couples(ones, others):
    """The list of the tuples of one of these and one of those."""
    return [(one, other) for one in ones for other in others]


def greatest_entry(first, second):
    """The greatest of two entries, where None is less than all and "endless" greater."""
    if first is None or second is None:
        return second if first is None else first
    return "endless" if isinstance(first, str) or isinstance(second, str) else max(first, second)


def greatest_after(summary, highs):
    """The dict from last names to the tuples of the greatest values at the end, if the first ones are at most highs."""
    if not is_summary(summary):
        raise InvalidPaper(summary)
    if not isinstance(highs, dict) or not all([is_name(name) for name in highs]):
        raise InvalidNumber(highs)
    if not all([is_integer(high) for high in list(highs.values())]):
        raise InvalidNumber(highs)
    found = {last: (None,) * len(summary[(None, None)]) for last in lasts_of(summary) if last is not None}
    for first, last in summary:
        if last is not None and (first is None or first in highs):
            high = 0 if first is None else highs[first]
            raised = [one + high if is_integer(one) else one for one in summary[(first, last)]]
            found[last] = tuple([greatest_entry(one, other) for one, other in zip(found[last], raised)])
    return found
