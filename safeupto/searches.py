"""Searches among the runs in which each start and each input is the least or the greatest possible integer."""

from safeupto.conditions import Watch, counts_among, is_condition_in, is_size
from safeupto.errors import InvalidCondition, InvalidNumber, InvalidSize, TooMany
from safeupto.graphs import numbers_for
from safeupto.kinds import is_row, is_within
from safeupto.machine import MOST_CHOICES, Run, starts_of

MOST_RUNS = 20000


def choices_by_point(graph):
    """The list of the sorted lists of the choices at each point."""
    found = [[] for _ in range(graph.points)]
    for index, (source, _, action) in enumerate(graph.edges):
        found[source].extend([(index, number) for number in numbers_for(action)])
    return found


def check_runs(machine, most):
    """Raises InvalidNumber unless most is a number of choices, then TooMany if there are too many runs with as many."""
    if not is_within(most, 0, MOST_CHOICES):
        raise InvalidNumber(most)
    leads = [(source, target, len(numbers_for(action))) for source, target, action in machine.graph.edges]
    ways = [0] * machine.graph.points
    ways[0] = len(starts_of(machine.program))
    total = ways[0]
    for _ in range(most):
        longer = [0] * len(ways)
        for source, target, many in leads:
            longer[target] = longer[target] + ways[source] * many
        ways = longer
        total = total + sum(ways)
        if total > MOST_RUNS:
            raise TooMany(MOST_RUNS)


def shortest_break(machine, condition, most):
    """The first one of the shortest runs at whose last state a condition does not hold; None if there is none."""
    if not is_condition_in(machine.program, machine.graph, condition):
        raise InvalidCondition(condition)
    check_runs(machine, most)
    watch, choices = Watch(machine.program, machine.graph, condition), choices_by_point(machine.graph)
    level = [(numbers, (), machine.start(numbers)) for numbers in starts_of(machine.program)]
    for length in range(most + 1):
        for numbers, made, state in level:
            if state.point in watch.spots and watch.is_broken(state.numbers):
                return Run(machine, numbers, made)
        if length < most:
            # In order, the runs with one choice more are in order, too.
            level = [(numbers, (*made, (index, number)), machine.after(state.numbers, index, number))
                     for numbers, made, state in level for index, number in choices[state.point]]
    return None


def least_counts(machine, size, most):
    """For each point the dict from the values there to the least count with which a run comes to them."""
    graph, choices = machine.graph, choices_by_point(machine.graph)
    counts = counts_among([action for _, _, action in graph.edges], size)
    found = [{} for _ in range(graph.points)]
    level = [(0, numbers, 0) for numbers in starts_of(machine.program)]
    for _ in range(most + 1):
        behind = []
        for point, numbers, count in level:
            known = found[point].get(numbers)
            # Who was there before with no greater count can still do all that can be done from here.
            if known is None or known > count:
                found[point][numbers] = count
                for index, number in choices[point]:
                    state = machine.after(numbers, index, number)
                    behind.append((state.point, state.numbers, count + counts[index]))
        level = behind
    return found


def campaign(machine, conditions, size, most):
    """Yields for each condition a tuple of it and the least count of a run that breaks it at its last state."""
    if not is_row(conditions):
        raise InvalidCondition(conditions)
    rows = list(conditions)
    for condition in rows:
        if not is_condition_in(machine.program, machine.graph, condition):
            raise InvalidCondition(condition)
    if not is_size(machine.program, size):
        raise InvalidSize(size)
    check_runs(machine, most)
    found = least_counts(machine, size, most)
    for condition in rows:
        watch = Watch(machine.program, machine.graph, condition)
        counts = [count for point in watch.spots for numbers, count in found[point].items() if watch.is_broken(numbers)]
        yield (condition, min(counts, default=None))
