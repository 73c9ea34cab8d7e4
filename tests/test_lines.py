"""Lines, their heights, and corners."""

import unittest
from fractions import Fraction

from safeupto.errors import InvalidCondition, InvalidNumber, InvalidProgram, InvalidSize, TooMany
from safeupto.lines import corners, is_line, least_line, line_heights
from safeupto.programs import Program
from safeupto.rates import rate
from safeupto.terms import Terms
from safeupto.values import greatest
from tests.growing import cases, chain, with_most
from tests.helpers import Case, Touchy, odd_objects

FAR = 10 ** 30
GO = ("rounds", "go")
ALL = ("rounds", None)
HERE = ("place", "here")
WISH = ("here", "x", None, 0)


def count(gain=3, high=0):
    return Program([("x", 0, high), ("y", 0, 0)], (("loop", "go", (("set", "x", (("x", gain),)), HERE)),))


def late(*jumps):
    """A program with a slow loop, and one loop behind another one with these constants."""
    body = (("loop", "go", (("set", "x", (("x", 1),)),)),)
    for at, jump in enumerate(jumps):
        body += (("loop", "ab"[at], (("set", "x", ((None, jump),)),)),)
    return Program([("x", 0, 0)], body + (HERE,))


def plain_line(program, condition, size, pair):
    """The least addition, found by going along all steps as often as there are nodes."""
    terms = Terms(program, condition, size)
    p, q = pair
    worths = {node: q * start for node, start in terms.begins().items()}
    many = len(terms.nodes())
    for turn in range(many + 1):
        changed = False
        for source, _, target, weight, counted in terms.steps():
            if source in worths:
                worth = worths[source] + q * weight - p * counted
                if target not in worths or worths[target] < worth:
                    worths[target], changed = worth, True
        if not changed:
            return max(worths[node] for node in terms.ends())
    return "endless"


class Lines(Case):

    def test_quotients(self):
        program = count()
        self.assertEqual(least_line(program, WISH, GO, (3, 1)), 0)
        self.assertEqual(least_line(program, WISH, GO, (6, 2)), 0)
        self.assertEqual(least_line(program, WISH, GO, (4, 1)), -1)
        self.assertEqual(least_line(program, WISH, GO, (FAR, 1)), 3 - FAR)
        self.assertEqual(least_line(program, WISH, GO, (FAR, FAR)), "endless")
        self.assertEqual(least_line(program, WISH, GO, (FAR, FAR // 3)), 3 * (FAR // 3) - FAR)
        self.assertEqual(least_line(program, WISH, GO, (FAR - 1, FAR // 3)), 0)
        self.assertEqual(least_line(program, WISH, GO, (FAR - 2, FAR // 3)), "endless")
        self.assertEqual(least_line(program, WISH, GO, (2, 1)), "endless")
        self.assertEqual(least_line(program, WISH, GO, (-1, 1)), "endless")
        self.assertEqual(least_line(count(3, 5), WISH, GO, (7, 2)), 10 + 6 - 7)
        self.assertEqual(least_line(program, WISH, ("calls", None), (FAR, 1)), "endless")
        self.assertEqual(least_line(count(-2), WISH, GO, (-2, 1)), 0)
        self.assertEqual(least_line(count(-2), WISH, GO, (-3, 1)), "endless")
        self.assertEqual(least_line(count(-2), WISH, GO, (-1, 1)), -1)
        self.assertEqual(least_line(count(-2), WISH, GO, (0, 1)), -2)

    def test_without_rings(self):
        program = Program([("x", -4, 7)], (("set", "x", (("x", 2),)), HERE))
        for p, q in [(0, 1), (5, 3), (-FAR, FAR), (FAR, FAR), (-FAR, 1)]:
            self.assertEqual(least_line(program, WISH, ("steps", None), (p, q)), 9 * q - p)
            self.assertEqual(least_line(program, ("here", None, "x", 0), ("steps", None), (p, q)), 2 * q - p)
            self.assertEqual(least_line(program, (0, "x", None, 0), ("steps", None), (p, q)), 7 * q)

    def test_most_does_not_count(self):
        for most in [-FAR, FAR]:
            self.assertEqual(least_line(count(), with_most(WISH, most), GO, (4, 1)), -1)
            self.assertEqual(line_heights(count(), with_most(WISH, most), GO, (4, 1)),
                             line_heights(count(), WISH, GO, (4, 1)))
            self.assertEqual(corners(late(9), with_most(WISH, most), ALL), [(0, 0), (1, 9)])

    def test_made_up(self):
        seen = {"endless": 0, "told": 0}
        for program, condition, size in cases(range(2200, 2450)):
            quotient = rate(program, condition, size)
            pairs = [(0, 1), (-1, 1), (7, 2), (FAR, 3), (-FAR, FAR)]
            if quotient != "endless" and quotient[0] < FAR:
                p, q = quotient
                pairs += [(p, q), (p + 1, q), (2 * p - 1, 2 * q)]
            for pair in pairs:
                found = least_line(program, condition, size, pair)
                self.assertEqual(found, plain_line(program, condition, size, pair))
                heights = line_heights(program, condition, size, pair)
                if found == "endless":
                    self.assertIsNone(heights)
                    seen["endless"] += 1
                    continue
                seen["told"] += 1
                for most, holds in [(found - 1, False), (found, True), (found + 1, True), (10 ** 70, True), (-10 ** 70, False)]:
                    self.assertIs(is_line(program, condition, size, pair, most, heights), holds)
        self.assertGreater(min(seen.values()), 200)


class Heights(Case):

    def setUp(self):
        self.program, self.pair = count(3, 5), (4, 1)
        self.heights = line_heights(self.program, WISH, GO, self.pair)

    def accepted(self, value, most=4):
        return is_line(self.program, WISH, GO, self.pair, most, value)

    def test_heights(self):
        self.assertEqual(self.heights, {(0, "x", None): 5, (1, "x", None): 5, (2, "x", None): 1, (3, "x", None): 4,
                                        (4, "x", None): 4})
        self.assertIsNone(line_heights(self.program, WISH, GO, (2, 1)))
        self.is_true(self.accepted(self.heights))
        self.is_false(self.accepted(self.heights, 3))
        self.is_true(self.accepted({node: self.heights[node] + 10 ** 50 for node in self.heights}, 10 ** 51))

    def test_bent(self):
        for node in self.heights:
            self.is_false(self.accepted({**self.heights, node: self.heights[node] - 1}), node)
            self.is_false(self.accepted({other: self.heights[other] for other in self.heights if other != node}))
            for worth in [None, True, "5", 5.0, (5,), Touchy()]:
                self.is_false(self.accepted({**self.heights, node: worth}))
        for node in [(5, "x", None), (0, "y", None), None, 0, "x"]:
            self.is_false(self.accepted({**self.heights, node: 0}))
        self.is_false(is_line(self.program, WISH, GO, (3, 1), 4, self.heights))
        self.is_true(is_line(self.program, WISH, GO, (5, 1), 4, self.heights))
        self.is_false(is_line(self.program, WISH, ("calls", None), (4, 1), 4, self.heights))

    def test_any_object(self):
        for value in odd_objects() + [0, list(self.heights), list(self.heights.items())]:
            self.is_false(self.accepted(value))

    def test_wrong_additions(self):
        for most in odd_objects() + ["4", (4,)]:
            self.fails(InvalidNumber, most, is_line, self.program, WISH, GO, self.pair, most, self.heights)

    def test_wrong_pairs(self):
        for pair in odd_objects() + [0, (1, 0), (1, -1), (1, 1, 1), (1,), [1, 1], (True, 1), (1, True), (FAR + 1, 1),
                                     (-FAR - 1, 1), (1, FAR + 1), ("1", 1), (None, 1), (1.0, 1), (Touchy(), 1)]:
            self.fails(InvalidNumber, pair, least_line, self.program, WISH, GO, pair)
            self.fails(InvalidNumber, pair, line_heights, self.program, WISH, GO, pair)
            for most in [4, None]:
                self.fails(InvalidNumber, pair, is_line, self.program, WISH, GO, pair, most, self.heights)

    def test_new_dicts(self):
        self.heights.clear()
        self.assertEqual(len(line_heights(self.program, WISH, GO, self.pair)), 5)


class Corners(Case):

    def test_found(self):
        self.assertEqual(corners(late(9), WISH, ALL), [(0, 0), (1, 9)])
        self.assertEqual(corners(late(2), WISH, ALL), [(0, 0), (1, 2)])
        self.assertEqual(corners(late(1), WISH, ALL), [(0, 0)])
        self.assertEqual(corners(late(), WISH, ALL), [(0, 0)])
        self.assertEqual(corners(count(), WISH, GO), [(1, 3)])
        self.assertEqual(corners(count(3, 5), WISH, GO), [(1, 8)])
        self.assertIsNone(corners(count(), WISH, ("calls", None)))
        self.assertIsNone(corners(late(9), WISH, GO[:1] + ("a",)))

    def test_points_on_a_line_and_below(self):
        for first, second, expected in [(9, 13, [(0, 0), (1, 9), (2, 13)]), (9, 18, [(0, 0), (2, 18)]),
                                        (9, 19, [(0, 0), (2, 19)]), (9, 9, [(0, 0), (1, 9)]), (9, 10, [(0, 0), (1, 9), (2, 10)]),
                                        (0, 0, [(0, 0)]), (0, 4, [(0, 0), (2, 4)])]:
            once = (("loop", "a", (("set", "y", ((None, first),)),)),
                    ("loop", "b", (("set", "y", ((None, first),)), ("loop", "c", (("set", "y", ((None, second),)),)))),
                    HERE)
            program = Program([("x", 0, 0), ("y", 0, 0)], once)
            self.assertEqual(corners(program, ("here", "y", None, 0), ALL), expected, (first, second))

    def test_made_up(self):
        seen = {"none": 0, "some": 0, "many": 0}
        for program, condition, size in cases(range(2500, 2800)):
            try:
                found = corners(program, condition, size)
            except TooMany:
                continue
            quotient = rate(program, condition, size)
            self.assertEqual(found is None, quotient == "endless")
            if found is None:
                seen["none"] += 1
                continue
            heads = {node for node in Terms(program, condition, size).begins()}
            heads |= {step[2] for step in Terms(program, condition, size).steps() if step[4] == 1}
            self.assertEqual(found, self.plain(program, condition, size, Fraction(*quotient), len(heads) + 3))
            seen["many" if len(found) > 1 else "some"] += 1
        self.assertGreater(min(seen.values()), 10)

    def plain(self, program, condition, size, slope, most):
        """The corners, found with a quotient between each two of those at which the best count can change."""
        points = [(count, greatest(program, condition, size, count)) for count in range(most)]
        points = [(count, value) for count, value in points if value is not None]
        slopes = sorted({Fraction(second[1] - first[1], second[0] - first[0])
                         for first in points for second in points if second[0] > first[0]})
        edges = [slope] + [one for one in slopes if one > slope] + [max([slope] + slopes) + 1]
        found = set()
        for first, second in zip(edges, edges[1:]):
            middle = (first + second) / 2
            worths = [value - middle * count for count, value in points]
            if worths.count(max(worths)) == 1:
                found.add(points[worths.index(max(worths))])
        return sorted(found)

    def test_heads(self):
        self.assertEqual(corners(chain(23, gain=-1), WISH, ALL), [(0, 0)])
        self.assertEqual(self.failing(TooMany, corners, chain(24), WISH, ALL).limit, 24)

    def test_new_lists(self):
        corners(late(9), WISH, ALL).clear()
        self.assertEqual(corners(late(9), WISH, ALL), [(0, 0), (1, 9)])


class Errors(Case):

    def test_order(self):
        named = Program([("x", 0, 0)], count().main, parameters=[("p", 0, 1)])
        long = Program([("x", 0, 0)], (("call", "f"),) * 40, procedures=[("f", (HERE,) * 40)])
        for call, rest in [(least_line, (None,)), (line_heights, (None,)), (is_line, (None, None, None)), (corners, ())]:
            for program in [named, None, Touchy()]:
                self.fails(InvalidProgram, program, call, program, None, None, *rest)
            self.assertEqual(self.failing(TooMany, call, long, None, None, *rest).limit, 150)
            for condition in [None, ("there", "x", None, 0), Touchy()]:
                self.fails(InvalidCondition, condition, call, count(), condition, None, *rest)
            for size in [None, ("rounds", "gone"), Touchy()]:
                self.fails(InvalidSize, size, call, count(), WISH, size, *rest)
        # Lines do not ask for the heads.
        self.assertEqual(least_line(chain(24), WISH, ALL, (1, 1)), 0)

    def test_by_name(self):
        self.assertEqual(least_line(pair=(4, 1), size=GO, condition=WISH, program=count()), -1)
        heights = line_heights(pair=(4, 1), size=GO, condition=WISH, program=count())
        self.is_true(is_line(value=heights, most=-1, pair=(4, 1), size=GO, condition=WISH, program=count()))
        self.assertEqual(corners(size=GO, condition=WISH, program=count()), [(1, 3)])


if __name__ == "__main__":
    unittest.main()
