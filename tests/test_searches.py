"""Searches among runs."""

import itertools
import random
import time
import unittest

from safeupto.conditions import first_break, size_of
from safeupto.errors import InvalidCondition, InvalidNumber, InvalidSize, TooMany
from safeupto.graphs import Graph
from safeupto.machine import Machine, Run, runs
from safeupto.programs import Program
from safeupto.searches import campaign, shortest_break
from tests.growing import grown, sizes_of
from tests.guarding import guarded
from tests.helpers import Case, odd_numbers, odd_objects

FAR = 10 ** 30
STEPS = ("steps", None)
HERE = ("place", "here")


def breaks(run, condition):
    """Whether the condition does not hold at the last state."""
    alone = Run(run.machine, run.states[0].numbers, run.choices)
    found = first_break(alone, condition)
    if found is None:
        return False
    if found == len(run):
        return True
    place, plus, minus, most = condition
    points = [place] if isinstance(place, int) else run.machine.graph.points_of(place)
    names = run.machine.program.names
    value = sum(sign * run.last.numbers[names.index(name)] for sign, name in [(1, plus), (-1, minus)] if name)
    return run.last.point in points and value > most


def all_runs(machine, most, limit=1500):
    """The lists of all runs with 0, 1 .. most choices, or None if there are more than so many."""
    found = []
    for many in range(most + 1):
        rows = list(itertools.islice(runs(machine, many), limit + 1))
        found.append(rows)
        if sum(len(one) for one in found) > limit:
            return None
    return found


def cases(seeds):
    """Tuples (machine, condition, most, all runs), with and without guards."""
    for seed, program in itertools.chain(grown(seeds), guarded(seeds)):
        chance = random.Random(seed)
        machine = Machine(program, guards=[name for name in program.guards if chance.random() < 0.6])
        most = chance.choice([0, 1, 3, 6, 9])
        rows = all_runs(machine, most)
        if rows is None:
            continue
        plus, minus = chance.choice([None, *program.names]), None
        if program.is_single and chance.random() < 0.5:
            minus = chance.choice(program.names)
        if plus == minus:
            continue
        place = chance.choice(["here", chance.randrange(Graph(program).points), chance.randrange(Graph(program).points)])
        yield machine, (place, plus, minus, chance.choice([-3, -1, 0, 1, 4])), most, rows


class Shortest(Case):

    def test_against_all_runs(self):
        seen = {}
        for machine, condition, most, rows in cases(range(60000, 60200)):
            expected = next((run for row in rows for run in row if breaks(run, condition)), None)
            found = shortest_break(machine, condition, most)
            if expected is None:
                self.assertIsNone(found)
            else:
                self.assertEqual(found, expected)
                self.assertIs(found.machine, machine)
            kind = None if expected is None else min(len(expected), 2)
            seen[kind] = seen.get(kind, 0) + 1
        self.assertEqual(sorted(seen, key=str), [0, 1, 2, None])

    def test_only_last_states_count(self):
        program = Program([("x", 0, 5)], (("set", "x", ((None, 0),)), HERE))
        found = shortest_break(Machine(program), (0, "x", None, 4), 2)
        self.assertEqual((len(found), found.last.numbers), (0, (5,)))
        self.assertIsNone(shortest_break(Machine(program), ("here", "x", None, 0), 2))
        found = shortest_break(Machine(program), ("here", "x", None, -1), 2)
        self.assertEqual((found.states[0].numbers, found.choices), ((0,), ((0, None), (1, None))))
        self.assertIsNone(shortest_break(Machine(program), ("here", "x", None, -1), 1))

    def test_guards(self):
        rows = (("loop", "go", (("set", "x", (("x", 4),)), ("guard", "g", "x", 6, 1), HERE)),)
        program = Program([("x", 0, 0)], rows)
        self.assertEqual(len(shortest_break(Machine(program), ("here", "x", None, 6), 30)), 10)
        self.assertIsNone(shortest_break(Machine(program, guards=["g"]), ("here", "x", None, 6), 30))
        self.assertEqual(len(shortest_break(Machine(program, guards=["g"]), (3, "x", None, 7), 30)), 8)

    def test_numbers(self):
        machine = Machine(Program([("x", 0, 1)], (HERE,)))
        for most in odd_numbers() + [-1, 101]:
            self.fails(InvalidNumber, most, shortest_break, machine, ("here", "x", None, 0), most)
        for most in [0, 1, 2, 100]:
            self.assertEqual(shortest_break(machine, ("here", "x", None, 0), most) is None, most == 0)
        self.assertEqual(len(shortest_break(most=1, condition=("here", "x", None, 0), machine=machine)), 1)

    def test_twenty_thousand(self):
        for total, variables in [(20000, [("x", 0, 0)]), (20000, [(name, 0, 1) for name in "xyzw"])]:
            machine, most = straight(total, variables)
            self.assertEqual(sum(1 for many in range(most + 1) for _ in runs(machine, many)), total)
            for wish in [(0, "x", None, -1), ("here", "x", None, FAR)]:
                found = shortest_break(machine, wish, most)
                self.assertEqual(found is None, wish[3] == FAR)
                self.assertEqual(list(campaign(machine, [wish], STEPS, most)), [(wish, None if wish[3] == FAR else 0)])
        machine, most = straight(20001, [("x", 0, 0)])
        self.assertEqual(sum(1 for many in range(most + 1) for _ in runs(machine, many)), 20001)
        for wish in [(0, "x", None, -1), ("here", "x", None, FAR)]:
            for call in [lambda number: shortest_break(machine, wish, number),
                         lambda number: list(campaign(machine, [wish], STEPS, number)),
                         lambda number: list(campaign(machine, [], STEPS, number))]:
                for number in [most, most + 1, 100]:
                    self.assertEqual(self.failing(TooMany, call, number).limit, 20000)
                call(most - 1)

    def test_twenty_thousand_in_time(self):
        machine, most = straight(20000, [("x", 0, 0)])
        begin = time.perf_counter()
        self.assertIsNone(shortest_break(machine, ("here", "x", None, FAR), most))
        self.assertLess(time.perf_counter() - begin, 2)

    def test_great_numbers_of_runs(self):
        body = tuple(("input", "x", 0, 1) for _ in range(30))
        program = Program([(name, 0, 1) for name in "xyzw"], (("loop", "go", body + (HERE,)),))
        begin = time.perf_counter()
        self.assertEqual(self.failing(TooMany, shortest_break, Machine(program), ("here", "x", None, 0), 100).limit, 20000)
        self.assertLess(time.perf_counter() - begin, 1)

    def test_errors_in_order(self):
        body = tuple(("input", "x", 0, 1) for _ in range(30))
        machine = Machine(Program([("x", 0, 1)], (("loop", "go", body + (HERE,)),)))
        for condition in odd_objects() + [("there", "x", None, 0), ("here", "x", "x", 0), ["here", "x", None, 0]]:
            self.fails(InvalidCondition, condition, shortest_break, machine, condition, None)
        self.fails(InvalidNumber, 101, shortest_break, machine, ("here", "x", None, 0), 101)
        self.assertEqual(self.failing(TooMany, shortest_break, machine, ("here", "x", None, 0), 100).limit, 20000)


def straight(total, variables):
    """A machine without branches, and a number of choices with at most which there are so many runs."""
    total //= len(list(runs(Machine(Program(variables, ())), 0)))
    # With each power of two as often as these tell, the numbers of runs of each length have this sum.
    most = 10 if total > 2 ** 13 else 8
    often = [1] * (most + 1)
    rest = total - (2 ** (most + 1) - 1)
    for power in range(most, -1, -1):
        often[power] += rest // 2 ** power
        rest %= 2 ** power
    body = [("input", "x", 0, 0)] * (often[0] - 1)
    for many in often[1:]:
        body += [("input", "x", 0, 1)] + [("input", "x", 0, 0)] * (many - 1)
    return Machine(Program(variables, (*body, HERE))), len(body)


class Campaign(Case):

    def test_against_all_runs(self):
        seen = {}
        for machine, condition, most, rows in cases(range(61000, 61200)):
            chance = random.Random(most)
            size = chance.choice(sizes_of(machine.program))
            places = ["here", condition[0], 0]
            conditions = [condition] + [(chance.choice(places), "x", None, chance.choice([-2, 0, 3])) for _ in range(3)]
            conditions.append(condition)
            found = list(campaign(machine, conditions, size, most))
            self.assertEqual([one for one, _ in found], conditions)
            for one, count in found:
                counts = [size_of(run, size) for row in rows for run in row if breaks(run, one)]
                self.assertEqual(count, min(counts, default=None))
                kind = None if count is None else min(count, 1)
                seen[kind] = seen.get(kind, 0) + 1
        self.assertEqual(sorted(seen, key=str), [0, 1, None])

    def test_longer_run_with_less(self):
        rows = (("either", (("set", "x", ((None, 5),)),), (("call", "f"),)), HERE)
        program = Program([("x", 0, 9)], rows, procedures=[("f", (("place", "a"), ("place", "b"), ("place", "c")))])
        wish = ("here", "x", None, 4)
        self.assertEqual(list(campaign(Machine(program), [wish], STEPS, 4)), [(wish, 1)])
        self.assertEqual(list(campaign(Machine(program), [wish], STEPS, 10)), [(wish, 0)])
        self.assertEqual(list(campaign(Machine(program), [wish], ("calls", None), 10)), [(wish, 0)])
        self.assertEqual(list(campaign(Machine(program), [("here", "x", None, 5)], ("calls", None), 10)),
                         [(("here", "x", None, 5), 1)])

    def test_lists_that_change(self):
        program = Program([("x", 0, 9)], (HERE,))
        first, second, third = [("here", "x", None, most) for most in (3, 9, 5)]
        rows = [first]
        found = campaign(Machine(program), rows, STEPS, 3)
        rows.append(second)
        seen = []
        for row in found:
            seen.append(row)
            rows.append(third)
            rows.insert(0, third)
        self.assertEqual(seen, [(first, 0), (second, None)])
        rows = [None]
        found = campaign(Machine(program), rows, STEPS, 3)
        rows[:] = [first, first]
        self.assertEqual(list(found), [(first, 0), (first, 0)])

    def test_none_at_all(self):
        program = Program([("x", 0, 9)], (HERE,))
        self.assertEqual(list(campaign(Machine(program), [], STEPS, 100)), [])
        self.assertEqual(list(campaign(size=STEPS, most=3, conditions=(), machine=Machine(program))), [])

    def test_errors_when_the_iteration_begins(self):
        body = tuple(("input", "x", 0, 1) for _ in range(30))
        machine = Machine(Program([("x", 0, 1)], (("loop", "go", body + (HERE,)),)))
        wish = ("here", "x", None, 0)

        def begun(*rest):
            found = campaign(machine, *rest)
            return next(iter(found))

        campaign(None, None, None, None)
        for value in [one for one in odd_objects() if type(one) not in (list, tuple)] + [{}, {wish: 0}, "here"]:
            self.fails(InvalidCondition, value, begun, value, None, None)
        for value in odd_objects() + [("there", "x", None, 0)]:
            self.fails(InvalidCondition, value, begun, [wish, value, None], None, None)
        for size in odd_objects() + [("rounds", "gone")]:
            self.fails(InvalidSize, size, begun, (wish,), size, None)
        for most in odd_numbers() + [-1, 101]:
            self.fails(InvalidNumber, most, begun, [], STEPS, most)
        self.assertEqual(self.failing(TooMany, begun, [], STEPS, 100).limit, 20000)
        self.assertEqual(self.failing(TooMany, begun, [wish], STEPS, 100).limit, 20000)


if __name__ == "__main__":
    unittest.main()
