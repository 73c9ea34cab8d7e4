"""Programs with guards, reads and widths, made up, and what holds with guards, found in the plainest way."""

import random

from safeupto.errors import SafeError, TooMany
from safeupto.graphs import Graph
from safeupto.machine import Machine, Run
from safeupto.programs import Program
from safeupto.terms import Terms
from tests.growing import LETTERS, grown

STEPS = ("steps", None)
# More than any value that is not endless, for small constants.
ABOVE = 400


class Guarder:
    """Puts guards and reads into the bodies of a program."""

    def __init__(self, program, seed, *, guards=4, bounds=(-3, 0, 2, 5, 9, 11)):
        self.chance = random.Random(seed)
        self.program = program
        self.left = guards
        self.bounds = bounds
        self.used = 0

    def more(self):
        kind = self.chance.random()
        variable = self.chance.choice(self.program.names)
        if kind < 0.3 and self.left > 0:
            self.left -= 1
            self.used += 1
            return (("guard", "g" + LETTERS[self.used], variable, self.chance.choice(self.bounds),
                     self.chance.choice([1, 1, 2, 3, 99])),)
        if kind < 0.4:
            return (("read", self.chance.choice(["rows", "cols"]), variable),)
        return ()

    def body(self, body):
        found = ()
        for statement in body:
            if statement[0] == "loop":
                statement = ("loop", statement[1], self.body(statement[2]))
            if statement[0] == "either":
                statement = ("either", self.body(statement[1]), self.body(statement[2]))
            found += self.more() + (statement,)
        return found + self.more()

    def made(self):
        program = self.program
        main = self.body(program.main)
        widths = [(name, self.chance.choice([2, 3, 4, 64])) for name in program.names if self.chance.random() < 0.5]
        return Program(program.variables, main, procedures=[(name, self.body(body)) for name, body in program.procedures],
                       arrays=[("rows", self.chance.choice([1, 4, 9])), ("cols", 10 ** 30)], widths=widths)


def guarded(seeds, *, points=40, **wishes):
    """The tuples (seed, program) that are made up for these numbers; too long ones are left out."""
    for seed, program in grown(seeds):
        if any(abs(constant) > 7 for constant in constants(program)):
            continue
        try:
            found = Guarder(program, seed, **wishes).made()
            if Graph(found).points > points:
                continue
        except (SafeError, TooMany):
            continue
        yield seed, found


def constants(program):
    """All constants of the sets of a program."""
    waiting = [program.main, *[body for _, body in program.procedures]]
    found = []
    while waiting:
        for statement in waiting.pop():
            if statement[0] == "set":
                found += [constant for _, constant in statement[2]]
            waiting += [one for one in statement[1:] if statement[0] in ("loop", "either") and isinstance(one, tuple)]
    return found


def capped_steps(program, condition, names):
    """The steps (node, node, weight, cap or None) of a condition with these guards."""
    edges = Graph(program).edges
    found = []
    for source, edge, target, weight, _ in Terms(program, condition, STEPS).steps():
        action = edges[edge][2]
        is_cap = action is not None and action[0] == "guard" and action[1] in names and action[2] == source[1]
        found.append((source, target, weight, action[3] if is_cap else None))
    return found


def plain_values(program, condition, names):
    """The dict from the nodes that matter to their greatest values with these guards, found by small steps."""
    terms = Terms(program, condition, STEPS)
    worths = dict(terms.begins())
    steps = capped_steps(program, condition, names)
    changed = True
    while changed:
        changed = False
        for source, target, weight, cap in steps:
            worth = worths.get(source)
            if worth is not None:
                worth = worth if worth == ABOVE else min(ABOVE, worth + weight)
                worth = worth if cap is None else min(worth, cap)
                if target not in worths or worths[target] < worth:
                    worths[target] = worth
                    changed = True
    return {node: "endless" if worth == ABOVE else worth for node, worth in worths.items()}


def plain_greatest(program, condition, names):
    """The greatest value of a condition with these guards."""
    worths = plain_values(program, condition, names)
    found = [worths[node] for node in Terms(program, condition, STEPS).ends()]
    return "endless" if "endless" in found else max(found)


def steps_told(rules, *, most=100000):
    """The first node and the steps of the last one of these rules; None if there are too many of them."""
    found = []
    for word, first, second in rules:
        found.append((first, list(second)) if word == "walk" else (found[first][0], found[first][1] + found[second][1]))
        if len(found[-1][1]) > most:
            return None
    return found[-1]


def followed(program, condition, names, rules):
    """The last state of a run of the machine with these guards along the edges of a short run."""
    node, steps = steps_told(rules)
    machine = Machine(program, guards=names)
    numbers = tuple(high for _, _, high in program.variables)
    choices = []
    for edge, _, _ in steps:
        action = machine.graph.edges[edge][2]
        choices.append((edge, action[3] if action is not None and action[0] == "input" else None))
    return Run(machine, numbers, choices).last
