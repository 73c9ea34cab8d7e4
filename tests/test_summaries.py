"""Summaries of procedures, joined summaries, and greatest values behind them."""

import random
import unittest

from safeupto.errors import InvalidName, InvalidNumber, InvalidPaper, InvalidProgram, InvalidSize, TooMany
from safeupto.graphs import Graph
from safeupto.programs import Program
from safeupto.summaries import greatest_after, is_summary, joined, summary
from safeupto.values import greatest
from tests.growing import grown, sizes_of
from tests.guarding import guarded
from tests.helpers import Agreeing, Case, Touchy, odd_names, odd_numbers, odd_objects
from tests.reference import ENDLESS, better, settled

FAR = 10 ** 30
STEPS = ("steps", None)
EMPTY = {(None, None): (0,)}


def counts(action, size):
    """Whether an edge with this action is counted."""
    kind, name = size
    if action is None:
        return False
    if kind == "steps":
        return action[0] in ("set", "input")
    return action[0] == {"rounds": "round", "calls": "call"}[kind] and name in (None, action[1])


def led(action, variable):
    """What a variable was ahead of an edge, with what was added."""
    if action is not None and variable is not None and action[:2] == ("set", variable):
        return action[2]
    if action is not None and variable is not None and action[:2] == ("input", variable):
        return ((None, action[3]),)
    return ((variable, 0),)


def plain_summary(program, name, size, most):
    """The summary found edge by edge and count by count."""
    at = [None, *program.procedures].index(next((row for row in program.procedures if row[0] == name), None))
    alone = Program(program.variables, program.body_of(name), procedures=program.procedures[at:],
                    arrays=program.arrays)
    graph, sides = Graph(alone), [None, *program.names]
    moves = []
    for source, target, action in graph.edges:
        one = counts(action, size)
        for side in sides:
            for was, weight in led(action, side):
                moves += [((source, was, n), (target, side, n + one), weight) for n in range(most + 1 - one)]
    found = {}
    for first in sides:
        worths = settled({(0, first, 0): 0}, moves)
        for last in sides:
            if first is None or last is not None:
                row, best = [], None
                for n in range(most + 1):
                    worth = worths.get((graph.end, last, n))
                    best = worth if better(worth, best) else best
                    row.append(best)
                found[first, last] = tuple(row)
    return found


def plain_joined(first, second):
    """The joined summary by trying all splits."""
    def plus(one, other):
        if one is None or other is None:
            return None
        return ENDLESS if ENDLESS in (one, other) else one + other

    many = len(first[None, None])
    between = {pair[1] for pair in first} | {pair[0] for pair in second}
    found = {}
    for begin in {pair[0] for pair in first}:
        for end in {pair[1] for pair in second}:
            if begin is not None and end is None:
                continue
            row = []
            for most in range(many):
                best = None
                for middle in between:
                    for split in range(most + 1):
                        one = first.get((begin, middle), (None,) * many)[split]
                        worth = plus(one, second.get((middle, end), (None,) * many)[most - split])
                        best = worth if better(worth, best) else best
                row.append(best)
            found[begin, end] = tuple(row)
    return found


class Summary(Case):

    def test_example(self):
        step = Program([('x', 0, 0), ('y', 0, 0)], (('set', 'x', (('x', 1), ('y', 0))),))
        self.assertEqual(summary(step, "main", STEPS, 2), {
            (None, None): (None, 0, 0), (None, "x"): (None, None, None), (None, "y"): (None, None, None),
            ("x", "x"): (None, 1, 1), ("x", "y"): (None, None, None), ("y", "x"): (None, 0, 0),
            ("y", "y"): (None, 0, 0)})

    def test_against_edges(self):
        seen = {None: 0, ENDLESS: 0, int: 0}
        for seed, program in grown(range(20000, 20150)):
            chance = random.Random(seed)
            for name in ["main", *[one for one, _ in program.procedures]]:
                size, most = chance.choice(sizes_of(program)), chance.choice([0, 1, 2, 3, 5])
                found = summary(program, name, size, most)
                self.assertEqual(found, plain_summary(program, name, size, most), (seed, name, size, most))
                self.is_true(is_summary(found))
                for row in found.values():
                    self.assertIs(type(row), tuple)
                    self.assertEqual(len(row), most + 1)
                    for one in row:
                        seen[one if one in (None, ENDLESS) else type(one)] += 1
        self.assertGreater(min(seen.values()), 100)

    def test_keys(self):
        for names in ["x", "xy", "xyzw"]:
            program = Program([(name, 0, 0) for name in names], ())
            found = summary(program, "main", STEPS, 0)
            keys = [(None, None)] + [(None, name) for name in names] + [(one, two) for one in names for two in names]
            self.assertEqual(sorted(found, key=str), sorted(keys, key=str))
            self.assertEqual({key: row for key, row in found.items() if row != (None,)},
                             {**{(name, name): (0,) for name in names}, (None, None): (0,)})

    def test_calls(self):
        bodies = [("f", (("set", "x", (("x", 1),)), ("call", "g"), ("call", "g"))), ("g", (("set", "x", (("x", 5),)),))]
        program = Program([("x", 0, 0)], (("call", "f"), ("set", "x", (("x", 100),))), procedures=bodies)
        self.assertEqual(summary(program, "g", STEPS, 3)["x", "x"], (None, 5, 5, 5))
        self.assertEqual(summary(program, "f", STEPS, 4)["x", "x"], (None, None, None, 11, 11))
        self.assertEqual(summary(program, "main", STEPS, 4)["x", "x"], (None, None, None, None, 111))
        self.assertEqual(summary(program, "main", ("calls", "g"), 3)["x", "x"], (None, None, 111, 111))
        self.assertEqual(summary(program, "f", ("calls", None), 2)["x", "x"], (None, None, 11))
        self.assertEqual(summary(program, "f", ("calls", "f"), 1)["x", "x"], (11, 11))
        self.assertEqual(summary(program, "main", ("calls", "f"), 1)["x", "x"], (None, 111))

    def test_loop_elsewhere_counts_nothing(self):
        bodies = [("f", (("loop", "in", (("set", "x", (("x", 2),)),)),))]
        program = Program([("x", 0, 0)], (("loop", "out", (("call", "f"),)),), procedures=bodies)
        self.assertEqual(summary(program, "f", ("rounds", "in"), 3)["x", "x"], (0, 2, 4, 6))
        self.assertEqual(summary(program, "f", ("rounds", "out"), 2)["x", "x"], (ENDLESS,) * 3)
        self.assertEqual(summary(program, "f", ("rounds", "out"), 2)[None, None], (0, 0, 0))
        self.assertEqual(summary(program, "main", ("rounds", "out"), 2)["x", "x"], (0, ENDLESS, ENDLESS))
        self.assertEqual(summary(program, "main", ("rounds", None), 4)["x", "x"], (0, 0, 2, 4, 6))

    def test_guards_and_reads_change_nothing(self):
        seen = 0
        for seed, program in guarded(range(21000, 21200)):
            strip = lambda body: tuple(
                (*one[:2], strip(one[2])) if one[0] == "loop" else
                ("either", strip(one[1]), strip(one[2])) if one[0] == "either" else one
                for one in body if one[0] not in ("guard", "read"))
            bare = Program(program.variables, strip(program.main),
                           procedures=[(name, strip(body)) for name, body in program.procedures])
            for name in ["main", *[one for one, _ in program.procedures]]:
                self.assertEqual(summary(program, name, STEPS, 4), summary(bare, name, STEPS, 4))
            seen += program != bare
        self.assertGreater(seen, 50)

    def test_great_numbers(self):
        program = Program([("x", 0, 0)], (("loop", "go", (("set", "x", (("x", FAR),)),)), ("set", "x", (("x", -FAR),))))
        self.assertEqual(summary(program, "main", ("rounds", "go"), 20)["x", "x"],
                         tuple(FAR * at for at in range(-1, 20)))

    def test_points(self):
        rows = (("place", "here"),) * 40
        many = Program([("x", 0, 0)], (("call", "f"),) * 5, procedures=[("f", (("set", "x", (("x", 1),)),) + rows[1:])])
        self.assertEqual(self.failing(TooMany, summary, many, "main", STEPS, 1).limit, 150)
        self.assertEqual(summary(many, "f", STEPS, 1)["x", "x"], (None, 1))
        many = Program([("x", 0, 0)], (("set", "x", (("x", 1),)),), procedures=[("f", (("call", "g"),) * 5), ("g", rows)])
        self.assertEqual(self.failing(TooMany, summary, many, "f", STEPS, 1).limit, 150)
        self.assertEqual(summary(many, "main", STEPS, 1)["x", "x"], (None, 1))
        self.assertEqual(summary(many, "g", ("calls", "f"), 1)["x", "x"], (0, 0))
        # The errors of the arguments come ahead.
        self.fails(InvalidNumber, 21, summary, many, "f", STEPS, 21)

    def test_at_the_limits(self):
        sets = tuple(("set", "xyzw"[at % 4], tuple(("xyzw"[(at + k) % 4], (-1) ** k * at) for k in range(4)))
                     for at in range(34))
        body = (("loop", "a", sets),)
        program = Program([(name, 0, 0) for name in "xyzw"], (("loop", "b", (("call", "f"), ("call", "f"),
                          ("loop", "c", (("call", "f"),)))),), procedures=[("f", body)])
        found = summary(program, "main", ("rounds", None), 20)
        self.assertEqual({len(row) for row in found.values()}, {21})
        self.assertEqual(found["x", "x"][:2], (0, 0))

    def test_numbers(self):
        program = Program([("x", 0, 0)], (("loop", "go", (("set", "x", (("x", 1),)),)),))
        for most in [0, 1, 20]:
            self.assertEqual(summary(program, "main", ("rounds", "go"), most)["x", "x"], tuple(range(most + 1)))
        for most in odd_numbers() + [-1, 21]:
            self.fails(InvalidNumber, most, summary, program, "main", STEPS, most)

    def test_errors_in_order(self):
        program = Program([("x", 0, 0)], (), procedures=[("f", ())])
        named = Program([("x", 0, 0)], (), parameters=[("p", 0, 1)])
        for value in odd_objects() + [named]:
            self.fails(InvalidProgram, value, summary, value, None, None, None)
        for name in odd_names() + ["g", "x"]:
            self.fails(InvalidName, name, summary, program, name, None, None)
        for size in odd_objects() + [("rounds", "go"), ("calls", "g"), ["steps", None], ("steps", "f")]:
            self.fails(InvalidSize, size, summary, program, "f", size, None)

    def test_new_and_by_names(self):
        program = Program([("x", 0, 0)], ())
        found = summary(most=1, size=STEPS, name="main", program=program)
        found.clear()
        self.assertEqual(len(summary(program, "main", STEPS, 1)), 3)


class Form(Case):

    def test_accepted(self):
        for value in [EMPTY, {(None, None): ("endless",) * 21}, {(None, None): (None, 5), ("a", "b"): (10 ** 90, -3)},
                      {(None, None): (0, 0), (None, "x"): (5, 1), ("xyzxyzxy", "x"): (None, None)}]:
            self.is_true(is_summary(value))
            self.is_true(is_summary(value=value))

    def test_refused(self):
        for value in odd_objects() + [0, [], [((None, None), (0,))], (EMPTY,), {("x", "x"): (0,)}, {(None, "x"): (0,)}]:
            self.is_false(is_summary(value))
        for key in [("x", None), "x", None, (), ("x",), ("x", "x", "x"), (0, "x"), ("x", 0), (None, True), ("X", "x"),
                    ("x", "ninechars"), ("", "x"), (None, ""), (("x", "x"), "x"), Agreeing(), (Agreeing(), "x"),
                    frozenset()]:
            self.is_false(is_summary({**EMPTY, key: (0,)}), key)
            self.is_false(is_summary({key: (0,), **EMPTY}), key)
            self.is_false(is_summary({key: (0,)}), key)
        for row in odd_objects() + [(), (0, 0), [0], 0, (True,), ("Endless",), (1.0,), ([0],), ({},), (Touchy(),),
                                    (Agreeing(),), "endless", ("endless", 0), (None,) * 22]:
            self.is_false(is_summary({**EMPTY, (None, "x"): row}), row)
        self.is_true(is_summary({(None, None): (0,) * 21}))
        for row in odd_objects() + [(0,) * 22, (), [0], 0]:
            self.is_false(is_summary({(None, None): row}), row)


def made_up(chance, names, many, *, whole=False):
    """Something of the form of a summary."""
    value = {(None, None): None}
    for first in [None, *names]:
        for last in names:
            if whole or chance.random() < 0.6:
                value[first, last] = None
    for key in value:
        value[key] = tuple(chance.choice([None, ENDLESS, 0, -5, 7, 3, chance.randint(-FAR, FAR)]) for _ in range(many))
    return value


class Joined(Case):

    def test_against_splits(self):
        chance = random.Random(5)
        for _ in range(300):
            many = chance.choice([1, 2, 3, 6])
            first = made_up(chance, chance.choice(["x", "xy", "abc"]), many)
            second = made_up(chance, chance.choice(["x", "yz", "abcd"]), many)
            keep = ({**first}, {**second})
            found = joined(first, second)
            self.assertEqual(found, plain_joined(first, second))
            self.assertEqual((first, second), keep)
            self.is_true(is_summary(found))

    def test_bodies_one_behind_the_other(self):
        done = 0
        for seed, program in grown(range(22000, 22300)):
            half = len(program.main) // 2
            size = random.Random(seed).choice(sizes_of(program))
            parts = [program.replaced("main", part) for part in (program.main[:half], program.main[half:])]
            if size[0] == "rounds" and size[1] is not None and not all(size[1] in part.loops for part in parts):
                size = ("rounds", None)
            found = [summary(part, "main", size, 4) for part in parts]
            self.assertEqual(joined(*found), summary(program, "main", size, 4), seed)
            done += 1
        self.assertGreater(done, 150)

    def test_procedures_called(self):
        done = 0
        for seed, program in grown(range(22500, 22900)):
            if len(program.procedures) < 2:
                continue
            both = Program(program.variables, (("call", "f"), ("call", "g"), ("call", "f")),
                           procedures=program.procedures)
            f, g = (summary(both, name, STEPS, 5) for name in "fg")
            self.assertEqual(joined(joined(f, g), f), summary(both, "main", STEPS, 5))
            self.assertEqual(joined(f, joined(g, f)), summary(both, "main", STEPS, 5))
            done += 1
        self.assertGreater(done, 20)

    def test_any_grouping(self):
        chance = random.Random(9)
        for _ in range(60):
            one, two, three = (made_up(chance, names, 3) for names in ["xy", "xz", "zy"])
            self.assertEqual(joined(joined(one, two), three), joined(one, joined(two, three)))

    def test_edges(self):
        first = {(None, None): (0, 0), ("a", "b"): (None, "endless")}
        second = {(None, None): (0, 0), ("b", "c"): (None, 4), ("d", "e"): (1, 1)}
        self.assertEqual(joined(first, second), {
            (None, None): (0, 0), (None, "c"): (None, None), (None, "e"): (None, None), ("a", "c"): (None, None),
            ("a", "e"): (None, None)})
        second[("b", "c")] = (4, None)
        self.assertEqual(joined(first, second)["a", "c"], (None, "endless"))
        self.assertEqual(joined({(None, None): (3, 1)}, {(None, None): (5, 9)}), {(None, None): (8, 12)})
        self.assertEqual(joined({(None, None): (None,)}, {(None, None): ("endless",)}), {(None, None): (None,)})

    def test_errors(self):
        wrong = [None, {}, [], {("x", "x"): (0,)}, Touchy(), {(None, None): [0]}]
        for value in wrong:
            self.fails(InvalidPaper, value, joined, value, value)
            self.fails(InvalidPaper, value, joined, EMPTY, value)
        other = {(None, None): (0, 0)}
        self.fails(InvalidPaper, other, joined, EMPTY, other)
        self.fails(InvalidPaper, EMPTY, joined, other, EMPTY)
        self.assertEqual(joined(second=EMPTY, first={(None, None): (4,)}), {(None, None): (4,)})


class After(Case):

    def test_values(self):
        value = {(None, None): (0, 0), (None, "x"): (None, 7), ("x", "x"): (1, 2), ("y", "x"): (0, "endless"),
                 ("y", "z"): (None, 4)}
        for highs, expected in [
                ({}, {"x": (None, 7), "z": (None, None)}), ({"x": 5}, {"x": (6, 7), "z": (None, None)}),
                ({"x": 6, "other": 99}, {"x": (7, 8), "z": (None, None)}),
                ({"x": 0, "y": -5}, {"x": (1, "endless"), "z": (None, -1)}),
                ({"y": 10 ** 40}, {"x": (10 ** 40, "endless"), "z": (None, 10 ** 40 + 4)})]:
            self.assertEqual(greatest_after(value, highs), expected)
        self.assertEqual(greatest_after(highs={}, summary=EMPTY), {})

    def test_against_the_program(self):
        for _, program in grown(range(23000, 23100)):
            found = greatest_after(summary(program, "main", STEPS, 6), {name: high for name, _, high in program.variables})
            graph = Graph(program)
            for name in program.names:
                for count in [0, 3, 6]:
                    try:
                        self.assertEqual(found[name][count], greatest(program, (graph.end, name, None, 0), STEPS, count))
                    except TooMany:
                        continue

    def test_errors(self):
        for value in odd_objects() + [{}, {("x", "x"): (0,)}]:
            self.fails(InvalidPaper, value, greatest_after, value, None)
        for highs in [one for one in odd_objects() if type(one) is not dict] + [[("x", 0)], {"X": 0}, {None: 0}, {"x": None},
                                                                    {"x": True}, {"x": 1.0}, {"x": "1"}, {0: 0},
                                                                    {Agreeing(): 0}, {"x": Touchy()}, {"ninechars": 1}]:
            self.fails(InvalidNumber, highs, greatest_after, EMPTY, highs)

    def test_new(self):
        value = {(None, None): (0,), ("x", "x"): (0,)}
        greatest_after(value, {"x": 1}).clear()
        self.assertEqual(greatest_after(value, {"x": 1}), {"x": (1,)})


if __name__ == "__main__":
    unittest.main()
