"""Greatest values for a count."""

import unittest

from safeupto.conditions import size_of
from safeupto.errors import InvalidCondition, InvalidNumber, InvalidProgram, InvalidSize, TooMany
from safeupto.graphs import Graph
from safeupto.machine import Machine, runs
from safeupto.programs import Program
from safeupto.values import greatest
from tests.growing import cases, chain, grown, sizes_of
from tests.helpers import Case, odd_objects
from tests.reference import better, values

FAR = 10 ** 30
GO = ("rounds", "go")
HERE = ("place", "here")


def loop(*body):
    return (("loop", "go", body + (HERE,)),)


class Told(Case):

    def setUp(self):
        self.count = Program([("x", 0, 0), ("y", 0, 5)], loop(("set", "x", (("x", 3),))))

    def test_integers(self):
        for most in [0, 1, 2, 10, 10 ** 12, FAR]:
            self.assertEqual(greatest(self.count, (5, "x", None, 0), GO, most), 3 * most)
            self.assertEqual(greatest(self.count, (5, "x", "y", 0), GO, most), 3 * most)
            self.assertEqual(greatest(self.count, (5, "y", "x", 0), GO, most), 5)
            self.assertEqual(greatest(self.count, (5, None, "x", 0), GO, most), 0)
            self.assertEqual(greatest(self.count, (5, None, "y", 0), GO, most), 0)

    def test_none(self):
        self.assertIsNone(greatest(self.count, ("here", "x", None, 0), GO, 0))
        self.assertEqual(greatest(self.count, ("here", "x", None, 0), GO, 1), 3)
        main = (("loop", "a", (("loop", "b", (("loop", "c", (HERE,)),)),)),)
        deep = Program([("x", 7, 7)], main)
        found = [greatest(deep, ("here", "x", None, 0), ("rounds", None), most) for most in range(5)]
        self.assertEqual(found, [None, None, None, 7, 7])

    def test_endless(self):
        self.assertEqual(greatest(self.count, ("here", "x", None, 0), ("calls", None), 0), "endless")
        self.assertEqual(greatest(self.count, ("here", "y", None, 0), ("calls", None), 0), 5)
        self.assertEqual(greatest(self.count, ("here", None, "x", 0), ("calls", None), 0), -3)

    def test_endless_from_a_count_on(self):
        inside = (("loop", "in", (("set", "x", (("x", 1),)),)),)
        main = (("loop", "go", inside), ("loop", "out", (("set", "y", (("x", 0),)),)), HERE)
        program = Program([("x", 0, 0), ("y", 0, 0)], main)
        self.assertEqual([greatest(program, ("here", "x", None, 0), GO, most) for most in range(3)],
                         [0, "endless", "endless"])
        self.assertEqual([greatest(program, ("here", "y", None, 0), ("rounds", "out"), most) for most in range(3)],
                         [0, "endless", "endless"])
        self.assertEqual([greatest(program, ("here", "y", None, 0), ("rounds", None), most) for most in range(6)],
                         [0, 0, 0, 1, 2, 3])

    def test_ring_without_gain_or_with_a_loss(self):
        for weight in [0, -1, -FAR]:
            main = (("loop", "in", (("set", "x", (("x", weight),)),)),) + loop(("set", "x", (("x", 1),)))
            program = Program([("x", 4, 4)], main)
            self.assertEqual(greatest(program, ("here", "x", None, 0), GO, FAR), FAR + 4)

    def test_not_single(self):
        main = loop(("set", "x", (("x", 1), ("y", 0), (None, 9))), ("set", "y", (("y", 3),)))
        program = Program([("x", 0, 0), ("y", 0, 0)], main)
        found = [greatest(program, ("here", "x", None, 0), GO, most) for most in [1, 2, 5, 6, 100, FAR]]
        self.assertEqual(found, [9, 10, 13, 15, 297, 3 * FAR - 3])
        self.fails(InvalidCondition, condition := ("here", "x", "y", 0), greatest, program, condition, GO, 1)

    def test_from_below_and_differences(self):
        main = loop(("set", "x", (("y", 2),)), ("set", "y", (("x", -5),)))
        program = Program([("x", 0, 4), ("y", -1, 1)], main)
        self.assertEqual([greatest(program, ("here", None, "y", 0), GO, most) for most in [1, 2, FAR]],
                         [4, 7, 3 * FAR + 1])
        self.assertEqual([greatest(program, ("here", "x", "y", 0), GO, most) for most in [1, 2, FAR]], [5, 5, 5])
        self.assertEqual(greatest(program, (0, "x", "y", 0), GO, 0), 5)

    def test_inputs(self):
        main = loop(("input", "y", -2, 6), ("set", "x", (("y", 1),)))
        program = Program([("x", 0, 0), ("y", 0, 0)], main)
        self.assertEqual(greatest(program, ("here", "x", None, 0), GO, 1), 7)
        self.assertEqual(greatest(program, ("here", None, "x", 0), GO, 1), 1)
        self.assertEqual(greatest(program, ("here", "x", "y", 0), GO, 1), 1)

    def test_rings_that_take_turns(self):
        # The second ring gains more for its rounds, but behind a loss of thirty digits.
        main = (("loop", "go", (("set", "x", (("x", 3),)),)), ("either", (), (("set", "x", (("x", -FAR),)),
                ("loop", "up", (("set", "x", (("x", 4),)),)))), HERE)
        program = Program([("x", 0, 0)], main)
        for most in [0, 1, FAR - 1]:
            self.assertEqual(greatest(program, ("here", "x", None, 0), ("rounds", None), most), 3 * most)
        self.assertEqual(greatest(program, ("here", "x", None, 0), ("rounds", None), FAR), 3 * FAR)
        less = Program([("x", 0, 0)], main[:1] + (("either", (), (("set", "x", (("x", -FAR // 2),)),
                       ("loop", "up", (("set", "x", (("x", 4),)),)))), HERE))
        self.assertEqual(greatest(less, ("here", "x", None, 0), ("rounds", None), FAR // 2), 3 * FAR // 2)
        self.assertEqual(greatest(less, ("here", "x", None, 0), ("rounds", None), FAR // 2 + 1), 3 * FAR // 2 + 4)
        self.assertEqual(greatest(less, ("here", "x", None, 0), ("rounds", None), FAR), 7 * FAR // 2)

    def test_ring_of_several_rounds(self):
        # x goes through y and z: only every third round tells.
        main = loop(("set", "w", (("z", 7),)), ("set", "z", (("y", 0),)), ("set", "y", (("x", 0),)),
                    ("set", "x", (("w", 0),)))
        program = Program([("x", 0, 0), ("y", 0, 0), ("z", 0, 0), ("w", 0, 0)], main)
        found = [greatest(program, (HERE[1], "x", None, 0), GO, most) for most in [1, 2, 3, 4, 5, 6, 7, FAR, FAR - 1]]
        self.assertEqual(found[:7], [7, 7, 7, 14, 14, 14, 21])
        # FAR leaves 1 when divided by 3.
        self.assertEqual(found[7:], [7 * (FAR + 2) // 3, 7 * (FAR - 1) // 3])

    def test_heads(self):
        # One beginning node, and one head for each loop.
        program = chain(23)
        self.assertEqual(greatest(program, ("here", "x", None, 0), ("rounds", None), FAR), FAR)
        program = chain(24)
        self.assertEqual(self.failing(TooMany, greatest, program, ("here", "x", None, 0), ("rounds", None), 1).limit, 24)
        self.assertEqual(greatest(program, ("here", "x", None, 0), ("rounds", "lb"), 0), "endless")


class Against(Case):

    def test_all_counts(self):
        seen = {"endless": 0, "none": 0, "all": 0}
        for program, condition, size in cases(range(400)):
            expected = values(program, condition, size, 6)
            try:
                found = [greatest(program, condition, size, most) for most in range(7)]
            except TooMany:
                continue
            self.assertEqual(found, expected, (program.main, condition, size))
            seen["endless"] += "endless" in found
            seen["none"] += None in found
            seen["all"] += 1
        self.assertGreater(min(seen.values()), 20)

    def test_all_runs(self):
        seen = 0
        for _, program in grown(range(120)):
            graph = Graph(program)
            if graph.points > 9:
                continue
            machine = Machine(program)
            for size in sizes_of(program)[:3]:
                for plus, minus in [(program.names[0], None), (None, program.names[0]), program.names[:2]][:2]:
                    if minus is not None and not program.is_single:
                        continue
                    condition = (graph.end, plus, minus, 0)
                    seen += self.compared(machine, condition, size)
        self.assertGreater(seen, 50)

    def compared(self, machine, condition, size):
        """Looks whether no run is greater than the value for its size; returns whether one is as great."""
        names, found, reached = machine.program.names, {}, False
        for most in range(8):
            for run in runs(machine, most):
                if run.last.point == condition[0]:
                    worth = sum(sign * run.last.numbers[names.index(name)]
                                for name, sign in [(condition[1], 1), (condition[2], -1)] if name is not None)
                    count = size_of(run, size)
                    found[count] = max(found.get(count, worth), worth)
        for count in found:
            value = greatest(machine.program, condition, size, count)
            self.assertFalse(better(found[count], value), (machine.program.main, condition, size, count))
            reached = reached or value == found[count]
        return reached


class Errors(Case):

    def setUp(self):
        self.program = Program([("x", 0, 0)], loop(("set", "x", (("x", 3),))))
        self.condition = ("here", "x", None, 0)

    def test_by_name(self):
        found = greatest(most=5, size=GO, condition=self.condition, program=self.program)
        self.assertEqual(found, greatest(self.program, self.condition, GO, 5))

    def test_counts(self):
        for most in odd_objects() + [-1, FAR + 1, -FAR, "5", (5,)]:
            self.fails(InvalidNumber, most, greatest, self.program, self.condition, GO, most)
        self.assertEqual(greatest(self.program, self.condition, GO, FAR), 3 * FAR)

    def test_order(self):
        named = Program([("x", 0, 0)], self.program.main, parameters=[("p", 0, 1)])
        self.fails(InvalidProgram, named, greatest, named, None, None, None)
        self.fails(InvalidProgram, None, greatest, None, None, None, None)
        long = Program([("x", 0, 0)], (("call", "f"),) * 40, procedures=[("f", (HERE,) * 40)])
        self.assertEqual(self.failing(TooMany, greatest, long, None, None, None).limit, 150)
        wrong = ("there", "x", None, 0)
        self.fails(InvalidCondition, wrong, greatest, self.program, wrong, None, None)
        size = ("rounds", "gone")
        self.fails(InvalidSize, size, greatest, self.program, self.condition, size, None)
        many = chain(24)
        self.assertEqual(self.failing(TooMany, greatest, many, self.condition, ("rounds", None), None).limit, 24)


if __name__ == "__main__":
    unittest.main()
