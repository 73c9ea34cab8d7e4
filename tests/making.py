"""Programs that are made up, always the same ones for the same number."""

import random

from safeupto.programs import Program


class Maker:
    """Makes up a program; the greater depth is, the more statements are inside of others."""

    def __init__(self, seed, *, single=False, parameters=True, length=3):
        self.chance = random.Random(seed)
        self.single = single
        self.length = length
        self.used = 0
        self.variables = ["x", "y", "zz", "w"][:self.chance.randint(1, 4)]
        self.parameters = ["p", "q", "r"][:self.chance.randint(0, 3)] if parameters else []
        self.arrays = ["rows", "cols"][:self.chance.randint(0, 2)]
        self.procedures = ["f", "g", "h", "i"][:self.chance.randint(0, 3)]

    def fresh(self, word):
        self.used += 1
        return word + "abcdefghijklmnopqrstuvwxyz"[self.used // 26] + "abcdefghijklmnopqrstuvwxyz"[self.used % 26]

    def constant(self):
        if self.parameters and self.chance.random() < 0.3:
            return self.chance.choice(self.parameters)
        return self.chance.choice([0, 0, 1, -1, 3, -7, 10 ** 30, -10 ** 30])

    def set(self):
        sources = self.chance.sample([None] + self.variables, len(self.variables) + 1)
        many = 1 if self.single else self.chance.randint(1, min(4, len(sources)))
        return ("set", self.chance.choice(self.variables), tuple((y, self.constant()) for y in sources[:many]))

    def input(self):
        low = self.chance.randint(-5, 5)
        return ("input", self.chance.choice(self.variables), low, low + self.chance.choice([0, 0, 1, 9]))

    def statement(self, levels, callees):
        kind = self.chance.choice(["set", "set", "input", "place", "guard", "read", "call", "loop", "either"])
        if kind == "read" and self.arrays:
            return ("read", self.chance.choice(self.arrays), self.chance.choice(self.variables))
        if kind == "call" and callees:
            return ("call", self.chance.choice(callees))
        if kind == "loop" and levels > 1:
            return ("loop", self.fresh("l"), self.body(levels - 1, callees))
        if kind == "either" and levels > 1:
            return ("either", self.body(levels - 1, callees), self.body(levels - 1, callees))
        if kind == "place":
            return ("place", self.chance.choice(["here", "there", "last"]))
        if kind == "guard":
            return ("guard", self.fresh("g"), self.chance.choice(self.variables), self.chance.randint(-9, 9),
                    self.chance.randint(1, 99))
        return self.input() if kind == "input" else self.set()

    def body(self, levels, callees):
        return tuple(self.statement(levels, callees) for _ in range(self.chance.randint(0, self.length)))

    def ranges(self, names):
        lows = {name: self.chance.randint(-9, 9) for name in names}
        return [(name, low, low + self.chance.choice([0, 0, 1, 5])) for name, low in lows.items()]

    def program(self):
        main = self.body(4, self.procedures)
        procedures = [(name, self.body(2, self.procedures[at + 1:])) for at, name in enumerate(self.procedures)]
        widths = [(name, self.chance.randint(2, 64)) for name in self.variables if self.chance.random() < 0.5]
        return Program(self.ranges(self.variables), main, procedures=procedures,
                       parameters=self.ranges(self.parameters), widths=widths,
                       arrays=[(name, self.chance.choice([1, 10 ** 30])) for name in self.arrays])


def made_up(seeds, **wishes):
    """The programs that are made up for these numbers; too long ones are left out."""
    found = []
    for seed in seeds:
        maker = Maker(seed, **wishes)
        try:
            found.append(maker.program())
        except ValueError:
            continue
    return found
