"""Guards: which of them make a condition hold for ever, and which do so at the least cost."""

from safeupto.bounding import is_bound, is_least
from safeupto.capping import ENDLESS, Ceilings, caps_on
from safeupto.errors import InvalidCondition, InvalidName, TooMany
from safeupto.machine import are_guards
from safeupto.nets import Net, counts_for, graph_for
from safeupto.rewriting import guards_in
from safeupto.shortruns import Judge, worth_of_run

MOST_GUARDS = 8


def guarded_net(program, condition):
    """The net of a condition without minus of a program with at most 8 guards, and the graph; raises the errors."""
    graph = graph_for(program, condition)
    if condition[2] is not None:
        raise InvalidCondition(condition)
    if len(program.guards) > MOST_GUARDS:
        raise TooMany(MOST_GUARDS)
    return Net(program, graph, condition, counts_for(graph, None)), graph


def net_with(program, condition, names):
    """The net of a condition, the graph, and the caps on its moves with these guards; raises all errors."""
    net, graph = guarded_net(program, condition)
    if not are_guards(names, program):
        raise InvalidName(names)
    return net, graph, caps_on(net, graph.edges, names)


def greatest_with(program, condition, names):
    """The greatest value over all runs with these guards: an integer, None or "endless"."""
    net, _, caps = net_with(program, condition, names)
    found = Ceilings(net, caps).greatest()
    # Each place of a condition is come to, so the value is never None.
    return "endless" if found == ENDLESS else found


def is_enough(program, condition, names):
    """Whether a condition holds for ever with these guards."""
    net, _, caps = net_with(program, condition, names)
    return Ceilings(net, caps).greatest() <= net.most


def broken_by(program, condition, names):
    """A short run that breaks a condition with these guards; None if they are enough."""
    net, _, caps = net_with(program, condition, names)
    ceilings = Ceilings(net, caps)
    return None if ceilings.greatest() <= net.most else ceilings.breaking_rules()


def is_broken_by(program, condition, names, value):
    """Whether the value is a short run that breaks a condition with these guards."""
    net, graph, _ = net_with(program, condition, names)
    caps = {edge: (action[2], action[3]) for edge, (_, _, action) in enumerate(graph.edges)
            if action is not None and action[0] == "guard" and action[1] in names}
    told = Judge(program, graph, counts_for(graph, None), caps).follow(value)
    if told is None:
        return False
    worth = worth_of_run(program, graph, condition, told[-1])
    return worth is not None and worth > net.most


def capped_heights(program, condition, names):
    """Heights that show that these guards are enough; None if they are not."""
    net, _, caps = net_with(program, condition, names)
    ceilings = Ceilings(net, caps)
    if ceilings.greatest() > net.most:
        return None
    return {node: "endless" if worth == ENDLESS else worth for node, worth in zip(net.spots, ceilings.worths)}


def is_capped_heights(program, condition, names, value):
    """Whether the value is such heights."""
    net, _, caps = net_with(program, condition, names)
    if not isinstance(value, dict) or len(value) != len(net.spots):
        return False
    worths = [value.get(node) for node in net.spots]
    if not all([is_bound(worth) for worth in worths]):
        return False
    if not all([is_least(worths[at], net.entries[at], 0) for at in net.entries]):
        return False
    for index, (source, _, target, weight, _) in enumerate(net.moves):
        if not is_as_great(worths[target], worths[source], weight, caps.get(index)):
            return False
    return all([worths[at] != "endless" and worths[at] <= net.most for at in net.exits])


def is_as_great(bound, ahead, weight, cap):
    """Whether a bound is at least the sum of the one ahead and a weight, or at least the cap, if there is one."""
    return (cap is not None and is_least(bound, cap, 0)) or is_least(bound, ahead, weight)


def choices_of(program):
    """The sorted list of the tuples (cost, sorted tuple of guards) of all choices of guards."""
    costs = {}
    for body in [program.main, *[body for _, body in program.procedures]]:
        for _, name, _, _, cost in guards_in(body):
            costs[name] = cost
    found = [(0, ())]
    for name in sorted(costs):
        found = [*found, *[(cost + costs[name], (*names, name)) for cost, names in found]]
    return sorted(found)


def least_choice(program, condition, choices):
    """The first one of these choices whose guards are enough; None if none is."""
    net, graph = guarded_net(program, condition)
    # More guards never make a value greater, so if all are not enough, none of the others are.
    if not is_enough(program, condition, program.guards):
        return None
    for cost, names in choices:
        if Ceilings(net, caps_on(net, graph.edges, names)).greatest() <= net.most:
            return cost, names
    return None


def least_guards(program, condition):
    """The tuple (cost, names) of the guards that are enough at the least cost; None if all together are not."""
    guarded_net(program, condition)
    return least_choice(program, condition, choices_of(program))


def cheaper(program, condition):
    """The sorted list of the sorted tuples of guards that cost less than those that are enough at the least cost."""
    guarded_net(program, condition)
    choices = choices_of(program)
    found = least_choice(program, condition, choices)
    return sorted([names for cost, names in choices if found is None or cost < found[0]])
