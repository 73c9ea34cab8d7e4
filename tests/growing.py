"""Programs in which values grow, made up, always the same ones for the same number, with conditions and sizes."""

import random

from safeupto.errors import SafeError, TooMany
from safeupto.graphs import Graph
from safeupto.programs import Program

LETTERS = "abcdefghijklmnopqrstuvwxyz"
SMALL = [[0, 1, -1, 2, 3], [0, 1, -1, -2, 5, -7], [0, 1, -1], [0, 0, 2, 3, -5, -50, 7], [10 ** 30, 1, -1, -10 ** 30, 0]]


class Grower:
    """Makes up a program with many loops and few statements."""

    def __init__(self, seed, *, parameters=()):
        self.chance = random.Random(seed)
        self.single = self.chance.random() < 0.4
        self.variables = ["x", "y", "z", "w"][:self.chance.randint(1, 4)]
        self.callees = ["f", "g"][:self.chance.choice([0, 0, 1, 2])]
        self.parameters = parameters
        self.constants = self.chance.choice(SMALL)
        self.used = 0
        self.left = self.chance.randint(3, 12)

    def fresh(self):
        self.used += 1
        return "l" + LETTERS[self.used]

    def constant(self):
        if self.parameters and self.chance.random() < 0.4:
            return self.chance.choice(self.parameters)[0]
        return self.chance.choice(self.constants)

    def statement(self, levels, callees):
        self.left -= 1
        kind = self.chance.choice(["set"] * 5 + ["input", "place", "loop", "loop", "loop", "either", "call"])
        if kind == "loop" and levels > 1:
            return ("loop", self.fresh(), self.body(levels - 1, callees))
        if kind == "either" and levels > 1:
            return ("either", self.body(levels - 1, callees), self.body(levels - 1, callees))
        if kind == "call" and callees:
            return ("call", self.chance.choice(callees))
        if kind == "place":
            return ("place", self.chance.choice(["here", "there"]))
        if kind == "input":
            low = self.chance.randint(-5, 5)
            return ("input", self.chance.choice(self.variables), low, low + self.chance.choice([0, 3]))
        return self.set()

    def set(self):
        variable = self.chance.choice(self.variables)
        sources = self.chance.sample([None] + self.variables, len(self.variables) + 1)
        many = 1 if self.single else self.chance.choice([1, 1, 2, 3, 4])
        sources = sources[:many]
        if self.chance.random() < 0.5 and variable not in sources:
            sources[0] = variable
        return ("set", variable, tuple((source, self.constant()) for source in sources))

    def body(self, levels, callees):
        found = []
        while self.left > 0 and len(found) < self.chance.randint(1, 3):
            found.append(self.statement(levels, callees))
        return tuple(found)

    def program(self):
        main = ()
        while self.left > 0:
            main += (self.statement(4, self.callees),)
        procedures = []
        for at, name in enumerate(self.callees):
            self.left = 4
            procedures.append((name, self.body(3, self.callees[at + 1:])))
        lows = [(name, self.chance.randint(-5, 5)) for name in self.variables]
        return Program([(name, low, low + self.chance.choice([0, 2])) for name, low in lows],
                       main + (("place", "here"),), procedures=procedures, parameters=self.parameters)


def sizes_of(program):
    """All sizes of a program."""
    return ([("steps", None), ("rounds", None), ("calls", None)] + [("rounds", name) for name in program.loops]
            + [("calls", name) for name, _ in program.procedures])


def grown(seeds, **wishes):
    """The tuples (seed, program) that are made up for these numbers; too long ones are left out."""
    for seed in seeds:
        try:
            program = Grower(seed, **wishes).program()
            if not program.parameters and Graph(program).points > 45:
                continue
        except (SafeError, TooMany):
            continue
        yield seed, program


def cases(seeds):
    """Tuples (program, condition, size); most of the condition is 0."""
    for seed, program in grown(seeds):
        chance = random.Random(seed)
        sides = [None, *program.names]
        for _ in range(2):
            plus, minus = chance.choice(sides), chance.choice(sides) if program.is_single else None
            place = chance.choice(["here", "here", Graph(program).end, chance.randrange(Graph(program).points)])
            if plus != minus:
                yield program, (place, plus, minus, 0), chance.choice(sizes_of(program))


def with_most(condition, most):
    """The condition with another bound, which is made a number."""
    return (*condition[:3], max(-10 ** 30, min(10 ** 30, most)))


def chain(loops, variables=("x",), gain=1):
    """A program with so many loops one behind the other, each with a step of its own."""
    bodies = [("loop", "l" + LETTERS[at], (("set", "x", (("x", gain),)),)) for at in range(loops)]
    return Program([(name, 0, 0) for name in variables], (("call", "f"), ("call", "g"), ("place", "here")),
                   procedures=[("f", tuple(bodies[:loops // 2])), ("g", tuple(bodies[loops // 2:]))])
