"""Two sizes at once."""

import random
import unittest

from safeupto.conditions import size_of
from safeupto.errors import InvalidCondition, InvalidNumber, InvalidProgram, InvalidSize, TooMany
from safeupto.limits import Limit, limit
from safeupto.machine import Machine, runs
from safeupto.programs import Program
from safeupto.staircases import staircase
from safeupto.terms import Terms
from tests.growing import cases, chain, grown, sizes_of, with_most
from tests.helpers import Case, Touchy, odd_objects
from tests.reference import values_for_two

FAR = 10 ** 30
A, B, ALL, STEPS = ("rounds", "a"), ("rounds", "b"), ("rounds", None), ("steps", None)
HERE = ("place", "here")
WISH = ("here", "x", None, 12)


def two(first=2, second=5):
    body = (("loop", "a", (("set", "x", (("x", first),)),)), ("loop", "b", (("set", "x", (("x", second),)),)), HERE)
    return Program([("x", 0, 0)], body)


def told(found):
    return [one.size for one in found]


class Found(Case):

    def test_example(self):
        found = staircase(two(), WISH, A, B, 3)
        self.assertIs(type(found), list)
        self.assertEqual({type(one) for one in found}, {Limit})
        self.assertEqual(told(found), [2, 2, 1, 1])
        self.assertEqual(told(staircase(two(), WISH, B, A, 3)), [6, 3, 1, -1])
        found.clear()
        self.assertEqual(len(staircase(two(), WISH, A, B, 3)), 4)

    def test_edges(self):
        self.assertEqual(told(staircase(two(), WISH, A, B, 0)), [2])
        self.assertEqual(told(staircase(two(), WISH, A, B, 8)), [2, 2, 1, 1, 0, 0, 0, -1, -1])
        self.assertEqual(told(staircase(two(), (0, "x", None, 0), A, B, 2)), [None, None, None])
        self.assertEqual(told(staircase(two(), (0, "x", None, -1), A, B, 2)), [-1, -1, -1])
        self.assertEqual(told(staircase(two(), ("here", None, "x", 0), A, B, 2)), [None, None, None])
        self.assertEqual(told(staircase(two(2, 0), WISH, A, B, 8)), [None] * 7 + [-1, -1])
        self.assertEqual(told(staircase(two(2, 0), WISH, B, A, 8)), [6] * 9)
        # Endless rounds that neither size counts.
        self.assertEqual(told(staircase(two(), WISH, STEPS[:1] + (None,), ("calls", None), 2)), [None, None, None])
        self.assertEqual(told(staircase(two(), WISH, ("calls", None), B, 2)), [-1, -1, -1])

    def test_the_same_size_twice(self):
        self.assertEqual(told(staircase(two(), WISH, ALL, ALL, 8)), [None] * 3 + [2] * 6)
        self.assertEqual(told(staircase(two(0, 5), WISH, B, B, 4)), [None, None, None, 2, 2])

    def test_counted_by_both(self):
        # Each round of a is one of all rounds, and has two steps.
        body = (("loop", "a", (("set", "x", (("x", 1),)), ("set", "x", (("x", 1),)))), ("loop", "b", (("set", "x", (("x", 1),)),)),
                HERE)
        program = Program([("x", 0, 0)], body)
        self.assertEqual(told(staircase(program, ("here", "x", None, 5), A, ALL, 4)), [5, 4, 3, 2, 2])
        self.assertEqual(told(staircase(program, ("here", "x", None, 5), ALL, STEPS, 8)), [None] * 3 + [5] * 6)
        self.assertEqual(told(staircase(program, ("here", "x", None, 5), ALL, A, 6)), [None] * 3 + [2, 1, 0, -1])

    def test_great_counts(self):
        self.assertEqual(told(staircase(two(2, 3), ("here", "x", None, FAR), A, B, 2)), [(FAR - 2 * n) // 3 for n in range(3)])
        far = ("here", "x", None, FAR)
        self.assertEqual(told(staircase(two(-FAR, 3), far, A, B, 8)), [FAR // 3] * 9)
        self.assertEqual(told(staircase(two(FAR // 2, 3), far, A, B, 3)), [FAR // 3, FAR // 6, 0, -1])

    def test_endless_from_a_count_on(self):
        inside = ("loop", "in", (("set", "x", (("x", 1),)),))
        body = (("loop", "a", (("loop", "b", (inside,)),)), HERE)
        program = Program([("x", 0, 0)], body)
        self.assertEqual(told(staircase(program, WISH, A, B, 2)), [None, 0, 0])
        self.assertEqual(told(staircase(program, WISH, B, A, 2)), [None, 0, 0])
        self.assertEqual(told(staircase(program, WISH, ("calls", None), A, 1)), [0, 0])
        # The ring is behind one round of a and one of b, in any order.
        body = (("loop", "a", (("set", "y", (("x", 0),)),)), ("loop", "b", (("loop", "in", (("set", "y", (("y", 1),)),)),)), HERE)
        program = Program([("x", 0, 0), ("y", -9, -9)], body)
        self.assertEqual(told(staircase(program, ("here", "y", None, 0), A, B, 2)), [0, 0, 0])
        self.assertEqual(told(staircase(program, ("here", "x", None, 0), A, B, 2)), [None, None, None])

    def test_made_up(self):
        seen = {"edge": 0, "ever": 0, "below": 0, "falling": 0}
        for at, (program, condition, second) in enumerate(cases(range(4500, 4800))):
            chance = random.Random(at)
            first = chance.choice(sizes_of(program))
            if len(Terms(program, condition, first).nodes()) > 25:
                continue
            most, others = 2, 5
            found_values = values_for_two(program, condition, first, second, most, others)
            wish = with_most(condition, chance.choice([-2, 0, 5, 12, 30]))
            try:
                found = told(staircase(program, wish, first, second, most))
            except TooMany:
                continue
            for n in range(most + 1):
                row = [found_values[n, m] for m in range(others + 1)]
                above = [m for m, value in enumerate(row) if value is not None and (value == "endless" or value > wish[3])]
                if above:
                    self.assertEqual(found[n], above[0] - 1)
                    seen["below" if found[n] == -1 else "edge"] += 1
                else:
                    self.assertTrue(found[n] is None or found[n] >= others)
                    seen["ever"] += found[n] is None
            seen["falling"] += len(set(found)) > 1
            total = limit(program, wish, second).size
            if total is not None:
                self.assertTrue(all(one is None or one >= total for one in found))
            else:
                self.assertEqual(found, [None] * (most + 1))
        self.assertGreater(min(seen.values()), 10)

    def test_all_runs(self):
        seen = 0
        for _, program in grown(range(5000, 5200)):
            machine = Machine(program)
            if machine.graph.points > 10:
                continue
            sizes, name = sizes_of(program), program.names[0]
            first, second = sizes[0], sizes[-1]
            for most in [0, 6]:
                condition = ("here", name, None, most)
                try:
                    found = staircase(program, condition, first, second, 8)
                except TooMany:
                    continue
                for length in range(9):
                    for run in runs(machine, length):
                        if run.last.point in machine.graph.points_of("here") and run.last.numbers[0] > most:
                            n, m = size_of(run, first), size_of(run, second)
                            self.assertNotIn(m, found[min(n, 8)])
                            seen += 1
        self.assertGreater(seen, 100)

    def test_heads(self):
        self.assertEqual(told(staircase(chain(11), WISH, ("rounds", "la"), ALL, 2)), [12, 12, 12])
        for first, second in [(ALL, ("rounds", "la")), (("rounds", "la"), ALL), (STEPS, ("calls", None))]:
            self.assertEqual(self.failing(TooMany, staircase, chain(12), WISH, first, second, 0).limit, 12)
        # The heads of both sizes together.
        main = tuple(("loop", "l" + letter, (("call", "f"),)) for letter in "abcdef")
        program = Program([("x", 0, 0)], main + (HERE,), procedures=[("f", ())])
        self.assertEqual(told(staircase(program, WISH, ALL, ("rounds", "la"), 1)), [None, None])
        self.assertEqual(told(staircase(program, WISH, ("calls", None), ("rounds", "la"), 1)), [None, None])
        self.assertEqual(self.failing(TooMany, staircase, program, WISH, ALL, ("calls", None), 1).limit, 12)
        program = Program([("x", 0, 0)], main[1:] + (HERE,), procedures=[("f", ())])
        self.assertEqual(told(staircase(program, WISH, ALL, ("calls", None), 1)), [None, None])


class Errors(Case):

    def test_order(self):
        program = two()
        named = Program([("x", 0, 0)], program.main, parameters=[("p", 0, 1)])
        long = Program([("x", 0, 0)], (("call", "f"),) * 40, procedures=[("f", (HERE,) * 40)])
        for wrong in [named, None, Touchy()]:
            self.fails(InvalidProgram, wrong, staircase, wrong, None, None, None, None)
        self.assertEqual(self.failing(TooMany, staircase, long, None, None, None, None).limit, 150)
        for condition in [None, ("there", "x", None, 0), Touchy()]:
            self.fails(InvalidCondition, condition, staircase, program, condition, None, None, None)
        for size in odd_objects() + [("rounds", "gone")]:
            for other in [A, None, Touchy()]:
                self.fails(InvalidSize, size, staircase, program, WISH, size, other, None)
            self.fails(InvalidSize, size, staircase, program, WISH, A, size, None)
        for most in odd_objects() + [-1, 9, FAR, "1", (1,)]:
            self.fails(InvalidNumber, most, staircase, program, WISH, A, B, most)
            self.fails(InvalidNumber, most, staircase, chain(12), WISH, ALL, ALL, most)

    def test_by_name(self):
        self.assertEqual(told(staircase(most=3, second=B, first=A, condition=WISH, program=two())), [2, 2, 1, 1])


if __name__ == "__main__":
    unittest.main()
