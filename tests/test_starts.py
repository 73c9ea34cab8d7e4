"""Sizes for all ranges of the variables, and for all numbers of a parameter."""

import random
import unittest

from safeupto.errors import (InvalidCondition, InvalidName, InvalidNumber, InvalidProgram, InvalidSize, SafeError,
                             TooMany)
from safeupto.formulas import Formula
from safeupto.graphs import Graph
from safeupto.limits import Limit, limit
from safeupto.programs import Program
from safeupto.starts import Starts, pieces
from safeupto.terms import Terms
from tests.growing import Grower, cases, chain, sizes_of, with_most
from tests.helpers import Agreeing, Case, Touchy, odd_names, odd_objects
from tests.reference import ENDLESS, counted_twice, settled

FAR = 10 ** 30
GO = ("rounds", "go")
ALL = ("rounds", None)
HERE = ("place", "here")
WISH = ("here", "x", None, 12)


def with_ranges(program, ranges):
    return Program([(name, *ranges[name]) for name in program.names], program.main, procedures=program.procedures)


def two():
    """A program whose end is come to from three beginning nodes."""
    main = (("loop", "go", (("set", "x", (("x", 3), ("y", 5), (None, 7))), HERE)),)
    return Program([("x", 0, 0), ("y", 0, 0), ("z", 0, 0)], main)


class AllStarts(Case):

    def test_pairs(self):
        starts = Starts(two(), WISH, GO)
        self.assertEqual(starts.pairs, ((None, None), ("x", None), ("y", None)))
        self.assertIs(type(starts.pairs), tuple)
        single = Program([("x", 0, 0), ("y", 0, 0)], (("either", (), (("set", "x", (("y", 1),)),)), HERE))
        self.assertEqual(Starts(single, ("here", "y", "x", 0), GO[:1] + (None,)).pairs, ((None, None), ("y", "x")))
        self.assertEqual(Starts(single, ("here", None, "x", 0), ALL).pairs, ((None, "x"), (None, "y")))

    def test_formulas(self):
        starts = Starts(two(), WISH, GO)
        for pair, more in [((None, None), 7), (("x", None), 3), (("y", None), 5)]:
            found = starts.formula(pair)
            self.assertIs(type(found), Formula)
            self.assertEqual([found.greatest(count) for count in [0, 1, 2, 5, FAR]],
                             [None] + [more + 3 * (count - 1) for count in [1, 2, 5, FAR]])
        self.assertEqual(starts.formula(pair=("x", None)).greatest(1), 3)

    def test_other_pairs(self):
        starts = Starts(two(), WISH, GO)
        for pair in odd_objects() + [("z", None), ("x", "y"), (None, "x"), ("x",), ("x", None, None), ["x", None], "x", 0,
                                     (Touchy(), None), ("x", Touchy()), (Agreeing(), Agreeing()), ("x", []), ({}, None)]:
            self.fails(InvalidName, pair, starts.formula, pair)
        for name in odd_names():
            self.fails(InvalidName, pair := (name, "z"), starts.formula, pair)
        self.assertEqual(starts.formula(("x", None)).greatest(1), 3)

    def test_made_up(self):
        seen = 0
        for program, condition, size in cases(range(3500, 3750)):
            try:
                starts = Starts(program, condition, size)
            except TooMany:
                continue
            terms = Terms(program, condition, size)
            self.assertEqual(starts.pairs, tuple([node[1:] for node in terms.nodes() if node[0] == 0]))
            self.compared(program, condition, size, starts)
            chance = random.Random(seen)
            for low, high in [(0, 0), (-5, 5), (-FAR, FAR), (FAR, FAR), (-FAR, -FAR)]:
                ranges = {name: (low, high) if chance.random() < 0.7 else (chance.randint(-9, 0), chance.randint(0, 9))
                          for name in program.names}
                kept = dict(ranges)
                other = with_ranges(program, ranges)
                for most in [-3, 4, 60, FAR, -FAR]:
                    found = starts(ranges, most)
                    self.assertIs(type(found), Limit)
                    self.assertEqual(found, limit(other, with_most(condition, most), size))
                self.assertEqual(ranges, kept)
            seen += 1
        self.assertGreater(seen, 150)

    def compared(self, program, condition, size, starts):
        """Looks at the formulas, against the greatest sums from each beginning node for a few counts."""
        begins, ends, steps = counted_twice(program, condition, size, size)
        moves = [((source, n), (target, n + one), weight) for source, target, weight, one, _ in steps
                 for n in range(4 - one)]
        for node in begins:
            worths, found = settled({(node, 0): 0}, moves), []
            for n in range(4):
                told = [worths[(end, m)] for end in ends for m in range(n + 1) if worths.get((end, m)) is not None]
                found.append(ENDLESS if ENDLESS in told else max(told, default=None))
            self.assertEqual([starts.formula(node[1:]).greatest(n) for n in range(4)], found)

    def test_wrong_ranges(self):
        starts = Starts(two(), WISH, GO)
        right = {"x": (0, 1), "y": (0, 1), "z": (-FAR, FAR)}
        before = starts(right, 20)
        for ranges in odd_objects() + [0, [("x", (0, 1))], {"x": (0, 1)}, {**right, "w": (0, 1)}, {**right, None: (0, 1)},
                                       {name: right[name] for name in "xy"}, {**right, "x": (1, 0)}, {**right, "x": [0, 1]},
                                       {**right, "x": (0,)}, {**right, "x": (0, 1, 2)}, {**right, "x": (True, 1)},
                                       {**right, "x": (0, True)}, {**right, "x": (0, FAR + 1)}, {**right, "y": (-FAR - 1, 0)},
                                       {**right, "x": None}, {**right, "x": "01"}, {**right, "x": (0, None)},
                                       {**right, "x": (Touchy(), 0)}, {**right, "x": Touchy()}, {"x": (0, 1), "y": (0, 1),
                                       "w": (0, 1)}, {Agreeing(): (0, 1), "y": (0, 1), "z": (0, 1)}]:
            for most in [5, None, Touchy()]:
                self.fails(InvalidNumber, ranges, starts, ranges, most)
        for most in odd_objects() + [FAR + 1, -FAR - 1, "5", (5,)]:
            self.fails(InvalidNumber, most, starts, right, most)
        self.assertEqual(starts(right, 20), before)
        self.assertEqual(starts(most=20, ranges=right), before)

    def test_heads(self):
        starts = Starts(chain(11), WISH, ALL)
        self.assertEqual(starts({"x": (-FAR, 1)}, FAR).size, FAR - 1)
        self.assertEqual(self.failing(TooMany, Starts, chain(12), WISH, ALL).limit, 12)

    def test_errors(self):
        named = Program([("x", 0, 0)], two().main[:0], parameters=[("p", 0, 1)])
        long = Program([("x", 0, 0)], (("call", "f"),) * 40, procedures=[("f", (HERE,) * 40)])
        for wrong in [named, None, Touchy()]:
            self.fails(InvalidProgram, wrong, Starts, wrong, None, None)
        self.assertEqual(self.failing(TooMany, Starts, long, None, None).limit, 150)
        for condition in [None, ("there", "x", None, 0), ("here", "x", "y", 0), Touchy()]:
            self.fails(InvalidCondition, condition, Starts, two(), condition, None)
        for size in [None, ("rounds", "gone"), Touchy()]:
            self.fails(InvalidSize, size, Starts, two(), WISH, size)
        found = Starts(size=GO, condition=WISH, program=two())
        self.assertEqual(found({"x": (0, 0), "y": (0, 0), "z": (0, 0)}, 12).size, 2)

    def test_methods_stand_in_the_class(self):
        for name in ["__init__", "pairs", "formula", "__call__"]:
            self.assertIn(name, vars(Starts))
        self.assertEqual((Starts.__module__, pieces.__module__), ("safeupto.starts",) * 2)


def counting(low, high, *others):
    """A program in which x grows by the parameter p with each round."""
    main = (("loop", "go", (("set", "x", (("x", "p"),)), HERE)),)
    return Program([("x", 0, 0)], main, parameters=[("p", low, high), *others])


def told(found):
    return [(low, high, one.size) for low, high, one in found]


class Pieces(Case):

    def test_example(self):
        found = pieces(counting(1, 6), "p", {}, WISH, GO)
        self.assertIs(type(found), list)
        self.assertEqual(told(found), [(1, 1, 12), (2, 2, 6), (3, 3, 4), (4, 4, 3), (5, 6, 2)])
        self.assertIs(type(found[0]), tuple)
        self.assertIs(type(found[0][2]), Limit)
        found.clear()
        self.assertEqual(len(pieces(counting(1, 6), "p", {}, WISH, GO)), 5)

    def test_great_ranges(self):
        self.assertEqual(told(pieces(counting(-FAR, FAR), "p", {}, ("here", "x", None, 3), GO)),
                         [(-FAR, 0, None), (1, 1, 3), (2, 3, 1), (4, FAR, 0)])
        self.assertEqual(told(pieces(counting(-FAR, FAR), "p", {}, ("here", "x", None, -1), GO)),
                         [(-FAR, -1, None), (0, FAR, 0)])
        self.assertEqual(told(pieces(counting(-FAR, -1), "p", {}, ("here", "x", None, -5), GO)),
                         [(-FAR, -5, None), (-4, -1, 0)])
        self.assertEqual(told(pieces(counting(FAR // 3, FAR), "p", {}, ("here", "x", None, FAR), GO)),
                         [(FAR // 3, FAR // 3, 3), (FAR // 3 + 1, FAR // 2, 2), (FAR // 2 + 1, FAR, 1)])
        self.assertEqual(told(pieces(counting(-FAR, FAR), "p", {}, (0, "x", None, 0), GO)), [(-FAR, FAR, None)])
        self.assertEqual(told(pieces(counting(-FAR, FAR), "p", {}, (0, "x", None, -1), GO)), [(-FAR, FAR, -1)])
        self.assertEqual(told(pieces(counting(-FAR, FAR), "p", {}, WISH, ("calls", None))),
                         [(-FAR, 0, None), (1, FAR, -1)])
        self.assertEqual(told(pieces(counting(7, 7), "p", {}, WISH, GO)), [(7, 7, 1)])

    def test_endless_from_a_count_on(self):
        inside = (("loop", "in", (("set", "x", (("x", "p"), ("y", -5))),)),)
        program = Program([("x", 0, 0), ("y", 0, 0)], (("loop", "go", inside), HERE), parameters=[("p", -9, FAR)])
        self.assertEqual(told(pieces(program, "p", {}, WISH, GO)), [(-9, 0, None), (1, FAR, 0)])

    def test_number_by_number(self):
        seen = {"parts": 0, "ever": 0, "below": 0}
        for seed in range(4000, 4400):
            chance = random.Random(seed)
            low, width = chance.randint(-4, 3), chance.choice([0, 1, 6, 12])
            parameters = (("p", low, low + width), ("q", -1, 2))
            try:
                program = Grower(seed, parameters=parameters).program()
            except SafeError:
                continue
            values, most = {"q": chance.randint(-1, 2)}, chance.choice([-3, 0, 4, 20, 100])
            condition, size = ("here", chance.choice(program.names), None, most), chance.choice(sizes_of(program))
            try:
                found = pieces(program, "p", values, condition, size)
            except TooMany:
                continue
            self.assertEqual(values, {"q": values["q"]})
            sizes = []
            for first, last, one in found:
                self.assertEqual(first, low + len(sizes))
                sizes += [one.size] * (last - first + 1)
            self.assertEqual(sizes, [limit(program.given({"p": number, **values}), condition, size).size
                                     for number in range(low, low + width + 1)])
            # The fewest parts.
            for first, second in zip(found, found[1:]):
                self.assertNotEqual(first[2], second[2])
            seen["parts"] += len(found) > 2
            seen["ever"] += None in sizes and len(found) > 1
            seen["below"] += -1 in sizes
        self.assertGreater(min(seen.values()), 3)

    def test_wide_ranges(self):
        seen = {"some": 0, "many": 0}
        for seed in range(4400, 4900):
            chance = random.Random(seed)
            wide = chance.choice([10 ** 3, 10 ** 9, FAR])
            low, high = -chance.randint(0, wide), chance.randint(0, wide)
            try:
                program = Grower(seed, parameters=(("p", low, high),)).program()
            except SafeError:
                continue
            most = chance.choice([0, 3, 100, 10 ** 9, FAR, -10 ** 9])
            condition, size = ("here", chance.choice(program.names), None, most), chance.choice(sizes_of(program))
            try:
                found = pieces(program, "p", {}, condition, size)
            except TooMany as error:
                seen["many"] += error.limit == 100
                continue
            self.assertEqual((found[0][0], found[-1][1]), (low, high))
            for first, second in zip(found, found[1:]):
                self.assertEqual(first[1] + 1, second[0])
                self.assertNotEqual(first[2], second[2])
            for first, last, one in found:
                for number in {first, last, chance.randint(first, last)}:
                    self.assertEqual(limit(program.given({"p": number}), condition, size), one)
            seen["some"] += len(found) > 1
        self.assertGreater(min(seen.values()), 5)

    def test_several_times_and_several_parameters(self):
        body = (("set", "x", (("x", "p"),)), ("set", "x", (("x", "q"), ("y", "p"))), ("set", "x", (("x", "p"), ("x", "q"))[:1]))
        main = (("loop", "go", body + (HERE,)),)
        program = Program([("x", 0, 0), ("y", 0, 0)], main, parameters=[("q", -2, 2), ("p", -3, 9), ("r", 0, 0)])
        for number in range(-2, 3):
            found = pieces(program, "p", {"q": number, "r": 0}, ("here", "x", None, 40), GO)
            sizes = [one.size for low, high, one in found for _ in range(low, high + 1)]
            self.assertEqual(sizes, [limit(program.given({"p": p, "q": number, "r": 0}), ("here", "x", None, 40), GO).size
                                     for p in range(-3, 10)])
        found = pieces(program, "q", {"p": 2, "r": 0}, ("here", "x", None, 40), GO)
        sizes = [one.size for low, high, one in found for _ in range(low, high + 1)]
        self.assertEqual(sizes, [limit(program.given({"p": 2, "q": q, "r": 0}), ("here", "x", None, 40), GO).size
                                 for q in range(-2, 3)])
        self.assertEqual(len(pieces(program, "r", {"p": 2, "q": 1}, ("here", "x", None, 40), GO)), 1)

    def test_a_hundred_parts(self):
        # With p from 1 to 100 each number has a limit of its own, as FAR is far greater.
        found = pieces(counting(1, 100), "p", {}, ("here", "x", None, FAR), GO)
        self.assertEqual(told(found), [(number, number, FAR // number) for number in range(1, 101)])
        found = pieces(counting(0, 99), "p", {}, ("here", "x", None, FAR), GO)
        self.assertEqual(told(found), [(0, 0, None)] + [(number, number, FAR // number) for number in range(1, 100)])
        for low, high in [(1, 101), (0, 100), (-FAR, FAR)]:
            error = self.failing(TooMany, pieces, counting(low, high), "p", {}, ("here", "x", None, FAR), GO)
            self.assertEqual(error.limit, 100)

    def test_heads(self):
        def with_loops(loops):
            bodies = [("loop", "l" + "abcdefghijklmnopqrstuvwxyz"[at], (("set", "x", (("x", "p"),)),)) for at in range(loops)]
            return Program([("x", 0, 0)], (("call", "f"), ("call", "g"), HERE), parameters=[("p", 1, 40)],
                           procedures=[("f", tuple(bodies[:loops // 2])), ("g", tuple(bodies[loops // 2:]))])
        found = pieces(with_loops(23), "p", {}, WISH, ALL)
        self.assertEqual(told(found), [(1, 1, 12), (2, 2, 6), (3, 3, 4), (4, 4, 3), (5, 6, 2), (7, 12, 1), (13, 40, 0)])
        self.assertEqual(self.failing(TooMany, pieces, with_loops(24), "p", {}, WISH, ALL).limit, 24)

    def test_wrong_programs(self):
        plain = two()
        for program in odd_objects() + [0, plain]:
            for name in ["p", None, Touchy()]:
                self.fails(InvalidProgram, program, pieces, program, name, None, None, None)

    def test_wrong_names(self):
        for name in odd_names() + ["x", "go", "here", "r", "main"]:
            for values in [{}, None, Touchy()]:
                self.fails(InvalidName, name, pieces, counting(1, 6), name, values, None, None)

    def test_wrong_values(self):
        program = counting(1, 6, ("q", 0, 3), ("r", 5, 5))
        self.assertEqual(len(pieces(program, "p", {"q": 1, "r": 5}, WISH, GO)), 5)
        for values in odd_objects() + [0, {"q": 1}, {"q": 1, "r": 5, "p": 1}, {"q": 4, "r": 5}, {"q": 1, "r": 4}, {"p": 1, "r": 5},
                                       {"q": True, "r": 5}, {"q": "1", "r": 5}, {"q": None, "r": 5}, [("q", 1), ("r", 5)],
                                       {"q": 1, None: 5}, {"q": Touchy(), "r": 5}, {Agreeing(): 1, "r": 5}]:
            for condition in [WISH, None, Touchy()]:
                self.fails(InvalidNumber, values, pieces, program, "p", values, condition, None)

    def test_wrong_conditions_and_sizes(self):
        program = Program([("x", 0, 0), ("y", 0, 0)], counting(1, 6).main, parameters=[("p", 1, 6)])
        for condition in odd_objects() + [("there", "x", None, 0), ("here", "x", "y", 0), ("here", None, "x", 0),
                                          ("here", "x", None, FAR + 1), ("here", "p", None, 0)]:
            for size in [GO, None, ("rounds", "gone"), Touchy()]:
                self.fails(InvalidCondition, condition, pieces, program, "p", {}, condition, size)
        for size in odd_objects() + [("rounds", "gone"), ("rounds", "p")]:
            self.fails(InvalidSize, size, pieces, program, "p", {}, WISH, size)
        long = Program([("x", 0, 0)], (("call", "f"),) * 40, procedures=[("f", (HERE,) * 40)], parameters=[("p", 0, 1)])
        self.assertRaises(TooMany, Graph, long.given({"p": 0}))
        for condition in [WISH, None]:
            self.assertEqual(self.failing(TooMany, pieces, long, "p", {}, condition, None).limit, 150)

    def test_by_name(self):
        found = pieces(size=GO, condition=WISH, values={}, name="p", program=counting(1, 6))
        self.assertEqual(len(found), 5)


if __name__ == "__main__":
    unittest.main()
