"""Rates, rings and the papers for them."""

import unittest
from fractions import Fraction
from math import gcd

from safeupto.errors import InvalidCondition, InvalidProgram, InvalidSize, TooMany
from safeupto.graphs import Graph
from safeupto.programs import Program
from safeupto.rates import best_ring, is_rate, rate, rate_paper
from safeupto.terms import Terms
from tests.growing import cases, chain
from tests.helpers import Agreeing, Case, Touchy, odd_objects

FAR = 10 ** 30
GO = ("rounds", "go")
HERE = ("place", "here")
WISH = ("here", "x", None, 0)


def loop(*body):
    return (("loop", "go", body + (HERE,)),)


def count(gain=3):
    return Program([("x", 0, 0), ("y", 0, 5)], loop(("set", "x", (("x", gain),))))


def turns(gain):
    """A program in which x takes two rounds to grow."""
    body = (("either", (("set", "x", (("y", gain),)),), (("set", "y", (("x", 0),)),)), HERE)
    return Program([("x", 0, 0), ("y", 0, 0)], (("loop", "go", body),))


def ring_sums(program, condition, size, rule):
    """The sum and count of a ring, found by its steps."""
    steps = {(source, edge, target): (weight, counted)
             for source, edge, target, weight, counted in Terms(program, condition, size).steps()}
    edges = Graph(program).edges
    word, node, moves = rule
    at, total, count_found = node, 0, 0
    for edge, plus, minus in moves:
        target = (edges[edge][1], plus, minus)
        weight, counted = steps[at, edge, target]
        at, total, count_found = target, total + weight, count_found + counted
    assert word == "walk" and at == node and len(moves) > 0
    return total, count_found


def slowest(program, condition, size):
    """The rate, found from the greatest sums of walks of each length from each node to itself; few nodes only."""
    terms = Terms(program, condition, size)
    nodes, steps = terms.nodes(), terms.steps()
    best = Fraction(0)
    for first in nodes:
        reached = {(first, 0): 0}
        for _ in range(len(nodes)):
            behind = {}
            for (node, many), worth in reached.items():
                for source, _, target, weight, counted in steps:
                    if source == node:
                        key = (target, many + counted)
                        behind[key] = max(behind.get(key, worth + weight), worth + weight)
            reached = behind
            for (node, many), worth in reached.items():
                if node == first and many > 0:
                    best = max(best, Fraction(worth, many))
                elif node == first and worth > 0:
                    return "endless"
    return (best.numerator, best.denominator)


class Rates(Case):

    def test_quotients(self):
        for gain in [1, 3, FAR, FAR - 1]:
            self.assertEqual(rate(count(gain), WISH, GO), (gain, 1))
            self.assertEqual(rate(count(gain), WISH, ("steps", None)), (gain, 1))
            self.assertEqual(rate(turns(gain), WISH, GO), (gain // gcd(gain, 2), 2 // gcd(gain, 2)))
        for gain in [0, -1, -FAR]:
            self.assertEqual(rate(count(gain), WISH, GO), (0, 1))
            self.assertEqual(rate(count(-gain), ("here", None, "x", 0), GO), (0, 1))
        self.assertEqual(rate(count(-4), ("here", None, "x", 0), GO), (4, 1))
        self.assertEqual(rate(count(5), ("here", "x", "y", 0), GO), (5, 1))
        self.assertEqual(rate(count(5), ("here", "y", "x", 0), GO), (0, 1))
        self.assertEqual(rate(count(5), (0, "x", None, 0), GO), (0, 1))

    def test_endless(self):
        for size in [("calls", None), ("rounds", "other")]:
            main = loop(("set", "x", (("x", 3),))) + (("loop", "other", ()), HERE)
            self.assertEqual(rate(Program([("x", 0, 0)], main), WISH, size), "endless")
        self.assertEqual(rate(count(0), WISH, ("calls", None)), (0, 1))
        self.assertEqual(rate(count(-3), WISH, ("calls", None)), (0, 1))

    def test_what_does_not_matter(self):
        main = loop(("set", "x", (("x", 3),))) + (("set", "x", ((None, 0),)), ("place", "late"))
        program = Program([("x", 0, 0), ("y", 0, 0)], main)
        self.assertEqual(rate(program, ("late", "x", None, 0), GO), (0, 1))
        self.assertEqual(rate(program, ("late", "y", None, 0), GO), (0, 1))
        self.assertEqual(rate(program, WISH, GO), (3, 1))

    def test_best_of_many(self):
        main = (("loop", "go", (("either", (("set", "x", (("x", 3),)), ("set", "x", (("x", 4),))),
                                 (("set", "x", (("x", 5),)),)), ("loop", "in", (("set", "x", (("x", 1),)),)))), HERE)
        program = Program([("x", 0, 0)], main)
        self.assertEqual(rate(program, WISH, ("rounds", None)), (7, 1))
        self.assertEqual(rate(program, WISH, ("steps", None)), (5, 1))
        self.assertEqual(rate(program, WISH, ("rounds", "in")), "endless")
        self.assertEqual(rate(program, WISH, GO), "endless")

    def test_many_heads(self):
        self.assertEqual(rate(chain(24), WISH, ("rounds", None)), (1, 1))
        self.is_true(is_rate(chain(24), WISH, ("rounds", None), rate_paper(chain(24), WISH, ("rounds", None))))

    def test_made_up(self):
        seen = {"endless": 0, "none": 0, "some": 0}
        for program, condition, size in cases(range(1800, 2200)):
            found = rate(program, condition, size)
            ring = best_ring(program, condition, size)
            if found == "endless":
                total, many = ring_sums(program, condition, size, ring)
                self.assertTrue(total > 0 and many == 0)
                seen["endless"] += 1
            elif ring is None:
                self.assertEqual(found, (0, 1))
                seen["none"] += 1
            else:
                total, many = ring_sums(program, condition, size, ring)
                self.assertTrue(many > 0 and total * found[1] == many * found[0] and found[0] > 0)
                self.assertEqual(gcd(*found), 1)
                seen["some"] += 1
            paper = rate_paper(program, condition, size)
            self.assertEqual(paper[:2], (found, ring))
            self.is_true(is_rate(program, condition, size, paper))
            if len(Terms(program, condition, size).nodes()) < 16:
                self.assertEqual(found, slowest(program, condition, size))
        self.assertGreater(min(seen.values()), 20)


class Papers(Case):

    def setUp(self):
        self.program = turns(3)
        self.rate, self.ring, self.heights = rate_paper(self.program, WISH, GO)

    def accepted(self, *value):
        return is_rate(self.program, WISH, GO, value)

    def test_accepted(self):
        self.assertEqual(self.rate, (3, 2))
        self.is_true(self.accepted(self.rate, self.ring, self.heights))
        self.is_true(self.accepted(self.rate, self.ring, {node: self.heights[node] - 7 for node in self.heights}))

    def test_bent_rates(self):
        for quotient in [(6, 4), (3, 1), (2, 1), (1, 2), (0, 1), (-3, 2), (3, -2), (-3, -2), [3, 2], (3, 2, 1), (3,), 3,
                         (3, 0), (True, 2), (3, True), ("3", 2), "endless", None, (3, None), (Touchy(), 2), Agreeing()]:
            self.is_false(self.accepted(quotient, self.ring, self.heights))

    def test_bent_rings(self):
        word, node, steps = self.ring
        self.is_true(self.accepted(self.rate, (word, node, steps + steps), self.heights))
        turned = (word, (Graph(self.program).edges[steps[0][0]][1], *steps[0][1:]), steps[1:] + steps[:1])
        self.is_true(self.accepted(self.rate, turned, self.heights))
        for ring in odd_objects() + [(word, node, ()), (word, node, steps[:-1]), (word, node, steps[1:]), [word, node, steps],
                                     (word, node, list(steps)), ("both", 0, 0), ("both", node, steps), (None, node, steps),
                                     (word, (9, "x", None), steps), (word, list(node), steps), (word, node, steps, 1),
                                     (word, node, ((99, "x", None),)), (word, node, (Touchy(),)), (word, Touchy(), steps)]:
            self.is_false(self.accepted(self.rate, ring, self.heights))

    def test_rings_of_other_quotients(self):
        # Around through y alone nothing is gained.
        node = self.ring[1]
        others = [rule for rule in self.rings() if rule != self.ring]
        self.assertGreater(len(others), 1)
        for rule in others:
            total, many = ring_sums(self.program, WISH, GO, rule)
            self.assertEqual(self.accepted(self.rate, rule, self.heights), 2 * total == 3 * many)
        self.assertEqual(len(node), 3)

    def rings(self):
        """Rules with rings of up to twelve steps from the node of the ring."""
        steps = Terms(self.program, WISH, GO).steps()
        walks, found = [(self.ring[1], ())], []
        for _ in range(12):
            walks = [(target, walk + ((edge, *target[1:]),)) for at, walk in walks
                     for source, edge, target, _, _ in steps if source == at]
            found += [("walk", self.ring[1], walk) for at, walk in walks if at == self.ring[1]]
        return found

    def test_bent_heights(self):
        for node in self.heights:
            # No step leads to beginning nodes.
            found = self.accepted(self.rate, self.ring, {**self.heights, node: self.heights[node] - 10})
            self.assertIs(found, node[0] == 0, node)
            less = {other: self.heights[other] for other in self.heights if other != node}
            self.is_false(self.accepted(self.rate, self.ring, less))
            for worth in [None, True, "0", 0.5, Touchy()]:
                self.is_false(self.accepted(self.rate, self.ring, {**self.heights, node: worth}))
        for other in [None, [], (), list(self.heights.items()), {**self.heights, (0, None, None): 0},
                      {**self.heights, None: 0}, 0, Touchy()]:
            self.is_false(self.accepted(self.rate, self.ring, other))

    def test_no_rate(self):
        program = count(0)
        found = rate_paper(program, WISH, GO)
        self.assertEqual(found[:2], ((0, 1), None))
        self.assertIsNone(best_ring(program, WISH, GO))
        ring = ("walk", (1, "x", None), ((1, "x", None), (2, "x", None), (3, "x", None), (4, "x", None)))
        self.assertEqual([edge[:2] for edge in Graph(program).edges], [(0, 1), (1, 2), (2, 3), (3, 4), (4, 1), (1, 5)])
        self.is_true(is_rate(program, WISH, GO, found))
        self.is_true(is_rate(program, WISH, GO, ((0, 1), ring, found[2])))
        self.is_false(is_rate(program, WISH, GO, ((0, 2), None, found[2])))
        self.is_false(is_rate(program, WISH, GO, ((0, 1), ring, None)))
        for other in [(), [], 0, False, "x", ("walk", (1, "x", None), ()), ("walk", (0, "x", None), ((0, "x", None),))]:
            self.is_false(is_rate(program, WISH, GO, ((0, 1), other, found[2])))
        # With a loss, or without a count, the ring is none for the rate.
        falling = count(-1)
        found = rate_paper(falling, WISH, GO)
        self.is_true(is_rate(falling, WISH, GO, found))
        self.is_false(is_rate(falling, WISH, GO, ((0, 1), ring, found[2])))
        found = rate_paper(program, WISH, ("calls", None))
        self.is_true(is_rate(program, WISH, ("calls", None), found))
        self.is_false(is_rate(program, WISH, ("calls", None), ((0, 1), ring, found[2])))
        self.is_false(is_rate(count(1), WISH, GO, ((0, 1), None, found[2])))
        # Greater rates are none, although there are heights for them.
        self.is_false(is_rate(program, WISH, GO, ((1, 1), None, found[2])))
        self.is_false(is_rate(program, WISH, GO, ((1, 1), ring, found[2])))

    def test_endless(self):
        program, size = count(), ("calls", None)
        word, ring, heights = rate_paper(program, WISH, size)
        self.assertEqual((word, heights), ("endless", None))
        self.is_true(is_rate(program, WISH, size, (word, ring, None)))
        self.is_true(is_rate(program, WISH, size, (word, (*ring[:2], ring[2] * 2), None)))
        for value in [(word, None, None), (word, ring, {}), (word, (*ring[:2], ring[2][:-1]), None), ("Endless", ring, None),
                      (b"endless", ring, None), (word, ring), (word, ring, None, None), [word, ring, None],
                      (word, (*ring[:2], ()), None), ((3, 1), ring, None), (word, ring, 0), (word, ring, False)]:
            self.is_false(is_rate(program, WISH, size, value))
        self.is_false(is_rate(program, WISH, GO, (word, ring, None)))
        self.is_false(is_rate(count(0), WISH, size, (word, ring, None)))

    def test_rings_that_do_not_matter(self):
        main = loop(("set", "x", (("x", 3),))) + (("set", "x", ((None, 0),)), ("place", "late"))
        program, late = Program([("x", 0, 0)], main), ("late", "x", None, 0)
        quotient, ring, heights = rate_paper(program, WISH, GO)
        self.is_true(is_rate(program, WISH, GO, (quotient, ring, heights)))
        self.is_false(is_rate(program, late, GO, (quotient, ring, rate_paper(program, late, GO)[2])))
        self.is_false(is_rate(program, late, ("calls", None), ("endless", ring, None)))

    def test_any_object(self):
        for value in odd_objects() + [0, (1, 2, 3), (None, None, None), (Touchy(), Touchy(), Touchy())]:
            self.is_false(is_rate(self.program, WISH, GO, value))

    def test_new_dicts(self):
        first = rate_paper(self.program, WISH, GO)
        first[2].clear()
        self.assertEqual(rate_paper(self.program, WISH, GO)[2], self.heights)

    def test_errors(self):
        named = Program([("x", 0, 0)], count().main, parameters=[("p", 0, 1)])
        long = Program([("x", 0, 0)], (("call", "f"),) * 40, procedures=[("f", (HERE,) * 40)])
        for call, rest in [(rate, ()), (best_ring, ()), (rate_paper, ()), (is_rate, (None,))]:
            for program in [named, None, Touchy()]:
                self.fails(InvalidProgram, program, call, program, None, None, *rest)
            self.assertEqual(self.failing(TooMany, call, long, None, None, *rest).limit, 150)
            for condition in [None, ("there", "x", None, 0), Touchy()]:
                self.fails(InvalidCondition, condition, call, count(), condition, None, *rest)
            for size in [None, ("rounds", "gone"), Touchy()]:
                self.fails(InvalidSize, size, call, count(), WISH, size, *rest)

    def test_by_name(self):
        self.assertEqual(rate(size=GO, condition=WISH, program=self.program), (3, 2))
        self.assertEqual(best_ring(size=GO, condition=WISH, program=self.program), self.ring)
        paper = rate_paper(size=GO, condition=WISH, program=self.program)
        self.is_true(is_rate(value=paper, size=GO, condition=WISH, program=self.program))


if __name__ == "__main__":
    unittest.main()
