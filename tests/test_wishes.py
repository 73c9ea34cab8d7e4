"""Wished conditions, and up to which size all of them hold."""

import random
import unittest

from safeupto.conditions import is_condition
from safeupto.errors import InvalidProgram, InvalidSize, TooMany
from safeupto.graphs import Graph
from safeupto.limits import Limit, limit
from safeupto.programs import Program
from safeupto.wishes import first_broken, safe_up_to, wished
from tests.growing import chain, sizes_of
from tests.guarding import guarded
from tests.helpers import Case, odd_objects

FAR = 10 ** 30
STEPS = ("steps", None)


def plain_wished(program):
    """The wished conditions, edge by edge."""
    found = []

    def wish(point, name, most, least):
        found.append((point, name, None, most))
        if all(len(one[2]) == 1 for one in sets(program.main) + [
                one for _, body in program.procedures for one in sets(body)]):
            found.append((point, None, name, least))

    for source, target, action in Graph(program).edges:
        if action and action[0] == "read":
            wish(source, action[2], dict(program.arrays)[action[1]] - 1, 0)
        if action and action[0] in ("set", "input") and action[1] in dict(program.widths):
            half = 2 ** (dict(program.widths)[action[1]] - 1)
            wish(target, action[1], half - 1, half)
    for name, bits in program.widths:
        wish(0, name, 2 ** (bits - 1) - 1, 2 ** (bits - 1))
    return sorted(set(found), key=lambda one: [(part is not None, part) for part in one])


def sets(body):
    found = []
    for one in body:
        if one[0] == "set":
            found.append(one)
        if one[0] in ("loop", "either"):
            found += [inner for part in one[1:] if isinstance(part, tuple) for inner in sets(part)]
    return found


class Wished(Case):

    def test_made_up(self):
        single = 0
        for seed, program in guarded(range(30000, 30300)):
            found = wished(program)
            self.assertEqual(found, plain_wished(program), seed)
            self.assertTrue(all(is_condition(program, one) for one in found))
            single += program.is_single
        self.assertGreater(single, 40)

    def test_reads(self):
        for length in [1, 2, FAR]:
            rows = (("set", "x", (("x", 1),)), ("read", "rows", "x"), ("read", "rows", "x"))
            program = Program([("x", 0, 0)], rows, arrays=[("rows", length)])
            self.assertEqual(wished(program), [(1, None, "x", 0), (1, "x", None, length - 1), (2, None, "x", 0),
                                               (2, "x", None, length - 1)])
            rows = (("set", "x", (("x", 1), (None, 0))),) + rows[1:2]
            program = Program([("x", 0, 0)], rows, arrays=[("rows", length)])
            self.assertEqual(wished(program), [(1, "x", None, length - 1)])

    def test_two_arrays_at_one_point(self):
        rows = (("either", (("read", "one", "x"),), (("read", "two", "x"),)), ("read", "one", "x"))
        program = Program([("x", 0, 0)], rows, arrays=[("two", 5), ("one", 3)])
        self.assertEqual(wished(program), [(1, None, "x", 0), (1, "x", None, 2), (3, None, "x", 0), (3, "x", None, 4),
                                           (5, None, "x", 0), (5, "x", None, 2)])

    def test_widths(self):
        for bits in [2, 3, 63, 64]:
            rows = (("input", "x", 0, 1), ("set", "y", (("x", 0),)), ("set", "x", (("y", 2),)), ("place", "x" * 3))
            program = Program([("x", 0, 0), ("y", 0, 0)], rows, widths=[("x", bits)])
            most = 2 ** (bits - 1)
            self.assertEqual(wished(program), [(at, *rest) for at in (0, 1, 3)
                                               for rest in [(None, "x", most), ("x", None, most - 1)]])

    def test_sorted_and_each_once(self):
        rows = (("read", "rows", "y"), ("set", "x", (("y", 0),)), ("read", "rows", "x"))
        program = Program([("y", 0, 0), ("x", 0, 0)], rows, arrays=[("rows", 2)], widths=[("y", 2), ("x", 2)])
        self.assertEqual(wished(program), [
            (0, None, "x", 2), (0, None, "y", 0), (0, None, "y", 2), (0, "x", None, 1), (0, "y", None, 1),
            (2, None, "x", 0), (2, None, "x", 2), (2, "x", None, 1)])

    def test_procedure_called_twice(self):
        program = Program([("x", 0, 0)], (("call", "f"), ("call", "f")), procedures=[("f", (("read", "rows", "x"),))],
                          arrays=[("rows", 7)])
        self.assertEqual(wished(program), [(1, None, "x", 0), (1, "x", None, 6), (4, None, "x", 0), (4, "x", None, 6)])
        # Nobody calls it: there is no edge.
        self.assertEqual(wished(program.replaced("main", ())), [])

    def test_new_list(self):
        program = Program([("x", 0, 0)], (), widths=[("x", 2)])
        wished(program).clear()
        self.assertEqual(wished(program=program), [(0, None, "x", 2), (0, "x", None, 1)])


class Safe(Case):

    def test_least_of_all(self):
        seen = {}
        for seed, program in guarded(range(31000, 31250)):
            size = random.Random(seed).choice(sizes_of(program))
            rows = wished(program)
            try:
                limits = [limit(program, one, size) for one in rows]
            except TooMany as error:
                self.assertEqual(self.failing(TooMany, safe_up_to, program, size).limit, error.limit)
                self.assertEqual(self.failing(TooMany, first_broken, program, size).limit, error.limit)
                continue
            sizes = [one.size for one in limits if one.size is not None]
            least = min(sizes, default=None)
            found = safe_up_to(program, size)
            self.assertIs(type(found), Limit)
            self.assertEqual(found.size, least)
            expected = None if least is None else rows[[one.size for one in limits].index(least)]
            self.assertEqual(first_broken(program, size), expected)
            kind = None if least is None else min(least, 1)
            seen[kind] = seen.get(kind, 0) + 1
        self.assertEqual(sorted(seen, key=str), [-1, 0, 1, None])

    def test_great(self):
        rows = (("loop", "go", (("set", "x", (("x", 1),)), ("read", "rows", "x"))),)
        program = Program([("x", 0, 0)], rows, arrays=[("rows", FAR)], widths=[("x", 64)])
        self.assertEqual(safe_up_to(program, ("rounds", "go")).size, 2 ** 63 - 1)
        self.assertEqual(first_broken(program, ("rounds", "go")), (3, "x", None, 2 ** 63 - 1))
        program = Program([("x", 0, 0)], rows, arrays=[("rows", FAR)])
        self.assertEqual(safe_up_to(program, ("rounds", "go")).size, FAR - 1)
        self.assertEqual(first_broken(program, ("rounds", "go")), (3, "x", None, FAR - 1))
        self.assertEqual(safe_up_to(program, ("calls", None)).size, -1)

    def test_first_of_the_list(self):
        rows = (("loop", "go", (("set", "y", (("y", 1),)), ("set", "x", (("x", 1),)))),)
        program = Program([("x", 0, 0), ("y", 0, 0)], rows, widths=[("x", 3), ("y", 3)])
        self.assertEqual(first_broken(program, ("rounds", "go")), (3, "y", None, 3))
        program = Program([("x", -9, 9)], (), widths=[("x", 2)])
        self.assertEqual(first_broken(program, STEPS), (0, None, "x", 2))
        self.assertEqual(safe_up_to(program, STEPS).size, -1)

    def test_none_and_for_ever(self):
        nothing = Program([("x", 0, FAR)], (("loop", "go", (("set", "x", (("x", 1),)),)),))
        held = Program([("x", 0, 1)], (("loop", "go", (("set", "x", (("x", 0),)), ("read", "rows", "x"))),),
                       arrays=[("rows", 2)], widths=[("x", 2)])
        for program in [nothing, held]:
            self.assertIsNone(safe_up_to(program, ("rounds", "go")).size)
            self.assertIsNone(first_broken(program, ("rounds", "go")))
        self.assertEqual(wished(nothing), [])

    def test_errors(self):
        named = Program([("x", 0, 0)], (), parameters=[("p", 0, 1)])
        long = Program([("x", 0, 0)], (("call", "f"),) * 40, procedures=[("f", (("place", "here"),) * 40)])
        for call, rest in [(wished, ()), (safe_up_to, (None,)), (first_broken, (None,))]:
            for value in odd_objects() + [named]:
                self.fails(InvalidProgram, value, call, value, *rest)
            self.assertEqual(self.failing(TooMany, call, long, *rest).limit, 150)
        nothing = Program([("x", 0, 0)], ())
        crowded = crowd(24)
        for call in (safe_up_to, first_broken):
            for size in odd_objects() + [("rounds", "go"), ["steps", None], ("steps", "x")]:
                self.fails(InvalidSize, size, call, nothing, size)
                self.fails(InvalidSize, size, call, crowded, size)
            self.assertEqual(self.failing(TooMany, call, crowded, ("rounds", None)).limit, 24)
        self.assertIsNone(safe_up_to(size=("rounds", None), program=crowd(23)).size)
        self.assertIsNone(first_broken(size=("rounds", None), program=crowd(23)))


def crowd(loops):
    """A program with wished conditions that have one head more than there are loops."""
    program = chain(loops, gain=0)
    return Program(program.variables, program.main + (("read", "rows", "x"),), procedures=program.procedures,
                   arrays=[("rows", 1)])


if __name__ == "__main__":
    unittest.main()
