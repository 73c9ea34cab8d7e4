"""Wished conditions: what the arrays and the widths of a program ask of its variables."""

from safeupto.conditions import is_size
from safeupto.errors import InvalidSize
from safeupto.graphs import graph_of
from safeupto.limits import Limit, limit
from safeupto.nets import node_order


def wish_order(condition):
    """What conditions at points are sorted by."""
    point, plus, minus, most = condition
    return (*node_order((point, plus, minus)), most)


def at_reads(program, graph):
    """The list of what is wished at the reads, tuples (point, variable, greatest value, opposite of the least one)."""
    lengths = {name: length for name, length in program.arrays}
    return [(source, action[2], lengths[action[1]] - 1, 0) for source, _, action in graph.edges
            if action is not None and action[0] == "read"]


def at_values(program, graph):
    """The list of what is wished where variables with a width are given values, tuples as at reads."""
    bits = {name: many for name, many in program.widths}
    spots = [(0, name) for name in bits]
    spots.extend([(target, action[1]) for _, target, action in graph.edges
                  if action is not None and action[0] in ("set", "input") and action[1] in bits])
    return [(point, name, (1 << (bits[name] - 1)) - 1, 1 << (bits[name] - 1)) for point, name in spots]


def wished_in(program, graph):
    """The sorted list of the wished conditions of a program with this graph."""
    found = {}
    for point, name, most, least in [*at_reads(program, graph), *at_values(program, graph)]:
        found[(point, name, None, most)] = True
        if program.is_single:
            found[(point, None, name, least)] = True
    return sorted(list(found), key=wish_order)


def wished(program):
    """The sorted list of the wished conditions of a program."""
    return wished_in(program, graph_of(program))


def limits_of(program, size):
    """The list of the tuples (wished condition, its Limit)."""
    found = wished(program)
    if not is_size(program, size):
        raise InvalidSize(size)
    return [(condition, limit(program, condition, size)) for condition in found]


def safe_up_to(program, size):
    """The Limit up to which all wished conditions hold."""
    found = Limit(None)
    for _, one in limits_of(program, size):
        found = found & one
    return found


def first_broken(program, size):
    """The first wished condition whose limit is the least of all; None if all of them hold for ever."""
    least, found = Limit(None), None
    for condition, one in limits_of(program, size):
        if not least.is_within(one):
            least, found = one, condition
    return found
