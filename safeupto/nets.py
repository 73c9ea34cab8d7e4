"""The front door of most functions: it looks at their arguments, and gives the nodes that matter for a condition."""

from safeupto.conditions import is_condition_in, is_size
from safeupto.errors import InvalidCondition, InvalidProgram, InvalidSize, TooMany
from safeupto.grounds import Ground, Net
from safeupto.programs import is_plain
from safeupto.rings import outs_along

MOST_HEADS = 24


def ground_for(program):
    """The ground of a program; raises its errors."""
    if not is_plain(program):
        raise InvalidProgram(program)
    found = program.recalled("ground")
    return program.remember("ground", Ground(program)) if found is None else found


def ground_with(program, condition):
    """The ground of a program, of which this is a condition; raises the errors of both."""
    ground = ground_for(program)
    if not is_condition_in(program, ground.chart, condition):
        raise InvalidCondition(condition)
    return ground


def net_for(program, condition, size):
    """The merged net of a condition, whose steps a size counts; raises the errors of all three."""
    return sized_net(program, ground_with(program, condition), condition, size)


def sized_net(program, ground, condition, size):
    """The merged net of a condition of a program with this ground; raises InvalidSize(size)."""
    if not is_size(program, size):
        raise InvalidSize(size)
    return remembered_net(program, ground, condition, size, True)


def full_net_for(program, condition, size):
    """The net of a condition with all nodes that matter, whose steps a size counts; raises the errors of all three."""
    ground = ground_with(program, condition)
    if not is_size(program, size):
        raise InvalidSize(size)
    return remembered_net(program, ground, condition, size, False)


def plain_net_for(program, condition, merged):
    """The net of a condition without a size; raises the errors of both."""
    return remembered_net(program, ground_with(program, condition), condition, None, merged)


def remembered_net(program, ground, condition, size, merged):
    """The net of a condition for a size, or None; it is made once."""
    place, plus, minus, _ = condition
    key = (merged, place, plus, minus, size)
    found = program.recalled(key)
    if found is None:
        found = program.remember(key, Net(ground, ground.ends_of(condition), ground.counts_for(size), merged))
    return found


def leads_of(net):
    """What leads out along the moves of a net, which is not to be changed."""
    if "leads" not in net.known:
        net.known["leads"] = outs_along(net.many, net.moves, 0, 1)
    return net.known["leads"]


def all_heads(net):
    """The sorted list of the heads of a net: the beginning nodes, and the nodes to which counted moves lead."""
    if "heads" not in net.known:
        targets = [target for _, _, target, _, counted in net.moves if counted == 1]
        net.known["heads"] = sorted(set([*net.entries, *targets]))
    return net.known["heads"]


def heads_of(net, most):
    """The sorted list of the heads of a net, which is not to be changed; raises TooMany with most if there are more."""
    heads = all_heads(net)
    if len(heads) > most:
        raise TooMany(most)
    return heads
