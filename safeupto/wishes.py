"""Wished conditions: what the arrays and the widths of a program ask of its variables."""

from safeupto.conditions import is_size
from safeupto.errors import InvalidSize
from safeupto.graphs import graph_of
from safeupto.limits import Limit
from safeupto.nets import MOST_HEADS, ground_for, remembered_net
from safeupto.reckoning import reckoning_of


def asked_for(program, graph):
    """The list of what is wished, tuples (point, variable, greatest value, opposite of the least one)."""
    lengths = {name: length for name, length in program.arrays}
    tops = {name: 1 << (bits - 1) for name, bits in program.widths}
    found = [(0, name, tops[name] - 1, tops[name]) for name in tops]
    for source, target, action in graph.edges:
        if action is not None:
            word, name = action[0], action[1]
            if word == "read":
                found.append((source, action[2], lengths[name] - 1, 0))
            elif (word == "set" or word == "input") and name in tops:
                found.append((target, name, tops[name] - 1, tops[name]))
    return found


def wished(program):
    """The sorted list of the wished conditions of a program."""
    graph = graph_of(program)
    rows = asked_for(program, graph)
    found = {(point, name, None, most): True for point, name, most, _ in rows}
    if program.is_single:
        for point, name, _, least in rows:
            found[(point, None, name, least)] = True
    # None comes ahead of each name.
    return sorted(list(found), key=lambda row: (row[0], row[1] or "", row[2] or "", row[3]))


def reckonings_for(program, size):
    """The list of the tuples (wished condition, what is known of it, the size of its Limit)."""
    conditions, ground = wished(program), ground_for(program)
    if not is_size(program, size):
        raise InvalidSize(size)
    found = []
    for condition in conditions:
        reckoning = reckoning_of(remembered_net(program, ground, condition, size, True), MOST_HEADS)
        broken = reckoning.break_above(condition[3])
        found.append((condition, reckoning, None if broken is None else broken[0] - 1))
    return found


def least_of_all(rows):
    """The first one of these tuples whose count is the least of all; None if no count is one."""
    found = None
    for row in rows:
        if row[2] is not None and (found is None or row[2] < found[2]):
            found = row
    return found


def safe_up_to(program, size):
    """The Limit up to which all wished conditions hold."""
    found = least_of_all(reckonings_for(program, size))
    return Limit(None if found is None else found[2])


def first_broken(program, size):
    """The first wished condition whose limit is the least of all; None if all of them hold for ever."""
    found = least_of_all(reckonings_for(program, size))
    return None if found is None else found[0]
