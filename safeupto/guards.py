"""Guards: which of them make a condition hold for ever, and which do so at the least cost."""

from safeupto.bounding import is_bound, is_least
from safeupto.capping import ENDLESS, caps_on, ceilings_of
from safeupto.errors import InvalidCondition, InvalidName, TooMany
from safeupto.grounds import Net
from safeupto.machine import are_guards
from safeupto.nets import ground_with, plain_net_for
from safeupto.papers import spread
from safeupto.rewriting import guards_in
from safeupto.shortruns import Judge, worth_of_run

MOST_GUARDS = 8


def guarded_ground(program, condition):
    """The ground of a program with at most 8 guards and a condition without minus; raises the errors."""
    ground = ground_with(program, condition)
    if condition[2] is not None:
        raise InvalidCondition(condition)
    if len(program.guards) > MOST_GUARDS:
        raise TooMany(MOST_GUARDS)
    return ground


def guarded_net(program, condition):
    """The net of a condition without minus of a program with at most 8 guards; raises the errors.

    It is merged, but for the points behind guards.
    """
    ground = guarded_ground(program, condition)
    key = ("guards", condition[0], condition[1])
    found = program.recalled(key)
    if found is None:
        kept = [1 if action is not None and action[0] == "guard" else 0 for _, _, action in ground.chart.edges]
        found = program.remember(key, Net(ground, ground.ends_of(condition), kept, True))
    return found


def ceilings_for(program, condition, names):
    """The net of a condition and the greatest values at its nodes with these guards; raises all errors."""
    net = guarded_net(program, condition)
    if not are_guards(names, program):
        raise InvalidName(names)
    return net, ceilings_of(net, names)


def greatest_with(program, condition, names):
    """The greatest value over all runs with these guards: an integer, None or "endless"."""
    _, ceilings = ceilings_for(program, condition, names)
    # Each place of a condition is come to, so the value is never None.
    return "endless" if ceilings.greatest() == ENDLESS else ceilings.greatest()


def is_enough(program, condition, names):
    """Whether a condition holds for ever with these guards."""
    _, ceilings = ceilings_for(program, condition, names)
    return ceilings.greatest() <= condition[3]


def broken_by(program, condition, names):
    """A short run that breaks a condition with these guards; None if they are enough."""
    net, ceilings = ceilings_for(program, condition, names)
    return None if ceilings.greatest() <= condition[3] else ceilings.breaking_rules(net, condition[3])


def is_broken_by(program, condition, names, value):
    """Whether the value is a short run that breaks a condition with these guards."""
    ground = guarded_ground(program, condition)
    if not are_guards(names, program):
        raise InvalidName(names)
    caps = {edge: (action[2], action[3]) for edge, (_, _, action) in enumerate(ground.chart.edges)
            if action is not None and action[0] == "guard" and action[1] in names}
    told = Judge(ground, ground.counts_for(None), caps).follow(value)
    if told is None:
        return False
    worth = worth_of_run(ground, condition, told[-1])
    return worth is not None and worth > condition[3]


def capped_heights(program, condition, names):
    """Heights that show that these guards are enough; None if they are not."""
    net, ceilings = ceilings_for(program, condition, names)
    if ceilings.greatest() > condition[3]:
        return None
    found = spread(net, ceilings.worths)
    return {node: "endless" if found[node] == ENDLESS else found[node] for node in found}


def is_capped_heights(program, condition, names, value):
    """Whether the value is such heights."""
    guarded_ground(program, condition)
    if not are_guards(names, program):
        raise InvalidName(names)
    net = plain_net_for(program, condition, False)
    if not isinstance(value, dict) or len(value) != net.many:
        return False
    worths, caps = [value.get(node) for node in net.nodes()], caps_on(net, names)
    if not all([is_bound(worth) for worth in worths]):
        return False
    if not all([is_least(worths[at], net.entries[at], 0) for at in net.entries]):
        return False
    for index, (source, _, target, weight, _) in enumerate(net.moves):
        if not is_as_great(worths[target], worths[source], weight, caps.get(index)):
            return False
    return all([worths[at] != "endless" and worths[at] <= condition[3] for at in net.exits])


def is_as_great(bound, ahead, weight, cap):
    """Whether a bound is at least the sum of the one ahead and a weight, or at least the cap, if there is one."""
    return (cap is not None and is_least(bound, cap, 0)) or is_least(bound, ahead, weight)


def choices_of(program):
    """The sorted list of the tuples (cost, sorted tuple of guards) of all choices of guards, not to be changed."""
    found = program.recalled("choices")
    return program.remember("choices", all_choices(program)) if found is None else found


def all_choices(program):
    """The same list, made anew."""
    costs = {}
    for body in [program.main, *[body for _, body in program.procedures]]:
        for _, name, _, _, cost in guards_in(body):
            costs[name] = cost
    found = [(0, ())]
    for name in sorted(costs):
        found = [*found, *[(cost + costs[name], (*names, name)) for cost, names in found]]
    return sorted(found)


def least_choice(program, condition, choices):
    """The first one of these choices whose guards are enough; None if none is."""
    net = guarded_net(program, condition)
    guards = {index: net.ground.chart.edges[net.moves[index][1]][2][1] for index in caps_on(net, program.guards)}
    # What is enough lowers each walk that was too great with others: it has a guard on it that these have not.
    lacking = []
    for cost, names in choices:
        if not any([are_apart(names, missed) for missed in lacking]):
            ceilings = ceilings_of(net, names)
            if ceilings.greatest() <= condition[3]:
                return cost, names
            met = {guards[index]: True for index in ceilings.moves_to_greatest() if index in guards}
            missed = [name for name in met if name not in names]
            if len(missed) == 0:
                return None
            lacking.append(missed)
    return None


def are_apart(names, others):
    """Whether none of these names is among the others."""
    for name in others:
        if name in names:
            return False
    return True


def least_guards(program, condition):
    """The tuple (cost, names) of the guards that are enough at the least cost; None if all together are not."""
    guarded_net(program, condition)
    return least_choice(program, condition, choices_of(program))


def cheaper(program, condition):
    """The sorted list of the sorted tuples of guards that cost less than those that are enough at the least cost."""
    guarded_net(program, condition)
    choices = choices_of(program)
    found = least_choice(program, condition, choices)
    return sorted([names for cost, names in choices if found is None or cost < found[0]])
