"""What changes no size of a condition: names, orders, bodies written out, everything multiplied."""

import unittest

from safeupto.errors import TooMany
from safeupto.formulas import formula
from safeupto.limits import limit
from safeupto.papers import heights
from safeupto.programs import Program
from safeupto.rates import rate
from safeupto.staircases import staircase
from tests.growing import grown, sizes_of
from tests.helpers import Case

NAMES = {"x": "b", "y": "a", "z": "zz", "w": "ninth", "f": "second", "g": "first", "here": "spot", "there": "other"}


def changed(body, change):
    """The body in which each statement is what change makes of it, a tuple of statements."""
    found = ()
    for statement in body:
        if statement[0] == "loop":
            statement = ("loop", statement[1], changed(statement[2], change))
        if statement[0] == "either":
            statement = ("either", changed(statement[1], change), changed(statement[2], change))
        found += change(statement)
    return found


def remade(program, change, *, variables=None, procedures=None):
    bodies = [(name, changed(body, change)) for name, body in program.procedures]
    return Program(variables or program.variables, changed(program.main, change),
                   procedures=bodies if procedures is None else procedures)


def renamed(name):
    return NAMES.get(name, name and name + "q")


def rename(statement):
    if statement[0] == "set":
        return (("set", renamed(statement[1]), tuple((renamed(name), constant) for name, constant in statement[2])),)
    if statement[0] in ("input", "loop", "call", "place"):
        return ((statement[0], renamed(statement[1]), *statement[2:]),)
    return (statement,)


def exchange(statement):
    return (("either", statement[2], statement[1]),) if statement[0] == "either" else (statement,)


def multiplied(factor):
    def change(statement):
        if statement[0] == "set":
            return (("set", statement[1], tuple((name, constant * factor) for name, constant in statement[2])),)
        if statement[0] == "input":
            return (("input", statement[1], statement[2] * factor, statement[3] * factor),)
        return (statement,)
    return change


class Same(Case):

    def conditions(self, program):
        names = program.names
        found = [("here", names[0], None), ("here", names[-1], None)]
        return found + ([("here", None, names[0])] + [("here", *names[:2])] * (len(names) > 1)) * program.is_single

    def told(self, program, condition, size):
        """What there is to be told of a condition, whatever its names are."""
        try:
            two = [one.size for one in staircase(program, condition, size, ("steps", None), 1)]
        except TooMany:
            two = None
        try:
            found = formula(program, condition, size)
            return limit(program, condition, size).size, [found.greatest(n) for n in range(9)], two
        except TooMany as error:
            return error.limit, heights(program, condition) is None, two

    def test_names(self):
        for _, program in grown(range(6000, 6035)):
            order = remade(program, rename, variables=[(renamed(name), *rest) for name, *rest in program.variables],
                           procedures=[(renamed(name), changed(body, rename)) for name, body in program.procedures])
            for place, plus, minus in self.conditions(program):
                for kind, name in sizes_of(program):
                    for most in [0, 15]:
                        self.assertEqual(self.told(program, (place, plus, minus, most), (kind, name)),
                                         self.told(order, (renamed(place), renamed(plus), renamed(minus), most),
                                                   (kind, renamed(name))))

    def test_bodies_of_either(self):
        seen = 0
        for _, program in grown(range(6100, 6200)):
            other = remade(program, exchange)
            if other == program:
                continue
            for condition in self.conditions(program):
                for size in sizes_of(program):
                    self.assertEqual(self.told(program, (*condition, 7), size), self.told(other, (*condition, 7), size))
                    seen += 1
        self.assertGreater(seen, 50)

    def test_order_of_procedures(self):
        seen = 0
        for _, program in grown(range(6200, 6400)):
            if len(program.procedures) < 2 or ("call", "g") in program.procedures[0][1]:
                continue
            try:
                other = remade(program, lambda statement: (statement,), procedures=program.procedures[::-1])
            except ValueError:
                continue
            for condition in self.conditions(program):
                for size in sizes_of(program):
                    self.assertEqual(self.told(program, (*condition, 7), size), self.told(other, (*condition, 7), size))
                    seen += 1
        self.assertGreater(seen, 50)

    def test_procedures_written_out(self):
        seen = 0
        for _, program in grown(range(6400, 6600)):
            bodies = dict(program.procedures)
            calls = [statement for _, body in program.procedures for statement in body if statement[0] == "call"]
            if len(bodies) != 1 or calls or program.main.count(("call", "f")) != 1 or str(program.main).count("call") != 1:
                continue
            other = remade(program, lambda statement: bodies["f"] if statement == ("call", "f") else (statement,),
                           procedures=[])
            for condition in self.conditions(program):
                for size in [("steps", None), ("rounds", None)]:
                    self.assertEqual(self.told(program, (*condition, 7), size), self.told(other, (*condition, 7), size))
                    seen += 1
        self.assertGreater(seen, 10)

    def test_multiplied(self):
        for _, program in grown(range(6600, 6640)):
            if 10 ** 30 in [abs(constant) for body in [program.main, *[body for _, body in program.procedures]]
                            for constant in numbers(body)]:
                continue
            for factor in [2, 7, 10 ** 20]:
                other = remade(program, multiplied(factor),
                               variables=[(name, low * factor, high * factor) for name, low, high in program.variables])
                for condition in self.conditions(program):
                    for size in sizes_of(program):
                        for most in [-4, 0, 15]:
                            self.multiplied(program, other, condition, size, most, factor)

    def multiplied(self, program, other, condition, size, most, factor):
        try:
            self.assertEqual(limit(program, (*condition, most), size), limit(other, (*condition, most * factor), size))
        except TooMany:
            return
        quotient, greater = (rate(one, (*condition, 0), size) for one in (program, other))
        if quotient == "endless":
            self.assertEqual(greater, "endless")
        else:
            self.assertEqual(quotient[0] * factor * greater[1], greater[0] * quotient[1])


def numbers(body):
    """All constants of the parts in a body."""
    found = []
    for statement in body:
        if statement[0] == "set":
            found += [constant for _, constant in statement[2]]
        for inside in statement[1:]:
            if statement[0] in ("either", "loop") and isinstance(inside, tuple):
                found += numbers(inside)
    return found


if __name__ == "__main__":
    unittest.main()
