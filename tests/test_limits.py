"""Limits, short runs, and the runs that they stand for."""

import unittest

from safeupto.conditions import first_break, size_of
from safeupto.errors import InvalidCondition, InvalidNumber, InvalidPaper, InvalidProgram, InvalidSize, TooMany
from safeupto.graphs import Graph
from safeupto.limits import Limit, as_run, breaking, is_breaking, limit
from safeupto.machine import Run
from safeupto.programs import Program
from safeupto.terms import Terms
from safeupto.values import greatest
from tests.growing import cases, chain, with_most
from tests.helpers import Agreeing, Case, Touchy, odd_objects
from tests.reference import first_break as first_above
from tests.reference import values

FAR = 10 ** 30
GO = ("rounds", "go")
HERE = ("place", "here")
WISH = ("here", "x", None, 10)


def loop(*body):
    return (("loop", "go", body + (HERE,)),)


def count(gain=3, high=0):
    return Program([("x", 0, high)], loop(("set", "x", (("x", gain),))))


class Limits(Case):

    def test_sizes(self):
        for size in [None, -1, 0, 1, 10 ** 30, 10 ** 31 - 1]:
            self.assertEqual(Limit(size).size, size)
            self.assertEqual(Limit(size=size).size, size)
        for size in [one for one in odd_objects() if one is not None] + [-2, -FAR, "1", (1,)]:
            self.fails(InvalidNumber, size, Limit, size)

    def test_in(self):
        for size, inside, outside in [(None, [-5, -1, 0, 7, FAR], []), (-1, [-FAR, -2, -1], [0, 1, FAR]),
                                      (0, [-3, -1, 0], [1, 2]), (FAR, [-1, 0, FAR - 1, FAR], [FAR + 1])]:
            for n in inside:
                self.is_true(n in Limit(size))
                self.is_false(n not in Limit(size))
            for n in outside:
                self.is_false(n in Limit(size))

    def test_and(self):
        for first in [None, -1, 0, 5, FAR]:
            for second in [None, -1, 0, 5, FAR]:
                both = Limit(first) & Limit(second)
                sizes = [size for size in (first, second) if size is not None]
                self.assertIs(type(both), Limit)
                self.assertEqual(both.size, min(sizes) if sizes else None)
        one = Limit(4)
        one & Limit(3)
        self.assertEqual(one.size, 4)

    def test_truth(self):
        for size in [None, 0, 1, FAR]:
            self.is_true(bool(Limit(size)))
        self.is_false(bool(Limit(-1)))

    def test_equality(self):
        sizes = [None, -1, 0, 1, FAR]
        for first in sizes:
            for second in sizes:
                self.assertEqual(Limit(first) == Limit(second), first == second)
                self.assertEqual(Limit(first) != Limit(second), first != second)
            for other in [first, (first,), None, 0, "x", object()]:
                self.is_false(Limit(first) == other)

    def test_is_within(self):
        for first in [None, -1, 0, 3, FAR]:
            for second in [None, -1, 0, 3, FAR]:
                expected = all(n in Limit(second) for n in [-1, 0, 1, 3, 4, FAR, FAR + 1] if n in Limit(first))
                self.assertIs(Limit(first).is_within(Limit(second)), expected)
                self.assertIs(Limit(first).is_within(other=Limit(second)), expected)


class Found(Case):

    def found(self, program, condition, size, expected):
        """Looks at the limit, and at the short run that breaks the condition just beyond."""
        found = limit(program, condition, size)
        self.assertIs(type(found), Limit)
        self.assertEqual(found.size, expected)
        rules = breaking(program, condition, size)
        if expected is None:
            self.assertIsNone(rules)
            return
        self.assertIs(type(rules), list)
        self.is_true(is_breaking(program, condition, size, expected + 1, rules))
        self.is_true(is_breaking(program, condition, size, 10 ** 40, rules))
        if expected >= 0:
            self.is_false(is_breaking(program, condition, size, expected, rules))
        self.assertLess(len(rules), 1000)

    def test_one_ring(self):
        self.found(count(), WISH, GO, 3)
        self.found(count(), ("here", "x", None, 9), GO, 3)
        self.found(count(), ("here", "x", None, 8), GO, 2)
        self.found(count(), ("here", "x", None, 3), GO, 1)
        self.found(count(), ("here", "x", None, 2), GO, 0)
        self.found(count(), ("here", "x", None, 0), GO, 0)
        self.found(count(), ("here", "x", None, -FAR), GO, 0)
        self.found(count(), (0, "x", None, -1), GO, -1)
        self.found(count(), (0, "x", None, 0), GO, None)
        self.found(count(), (1, "x", None, -1), GO, -1)
        self.found(count(), ("here", None, "x", 0), GO, None)
        self.found(count(0), ("here", "x", None, 0), GO, None)
        self.found(count(0), ("here", "x", None, -1), GO, 0)
        self.found(count(-1), ("here", "x", None, 0), GO, None)
        self.found(count(-1), ("here", None, "x", 5), GO, 5)

    def test_thirty_digits(self):
        for gain in [1, 2, 3, 7, 10 ** 15 + 1, FAR]:
            self.found(count(gain), ("here", "x", None, FAR), GO, FAR // gain)
            self.found(count(gain, FAR), ("here", "x", None, FAR), GO, 0)
            self.found(count(-gain), ("here", None, "x", FAR - 1), GO, (FAR - 1) // gain)
        far = Program([("x", -FAR, -FAR)], loop(("set", "x", (("x", 1),))))
        self.found(far, ("here", "x", None, FAR), GO, 2 * FAR)

    def test_loss_between_two_loops(self):
        main = (("loop", "a", (("set", "x", (("x", 1),)),)), ("either", (), (("set", "x", (("x", -100),)),
                ("loop", "b", (("set", "x", (("x", 3),)),)))), HERE)
        program = Program([("x", 0, 0)], main)
        for most in [0, 10, 49, 50, 51, 60, 300, FAR]:
            expected = min(most, (most + 100) // 3)
            self.found(program, ("here", "x", None, most), ("rounds", None), expected)

    def test_ring_of_several_rounds(self):
        main = loop(("set", "w", (("z", 7),)), ("set", "z", (("y", 0),)), ("set", "y", (("x", 0),)),
                    ("set", "x", (("w", 0),)))
        program = Program([("x", 0, 0), ("y", 0, 0), ("z", 0, 0), ("w", 0, 0)], main)
        self.found(program, ("here", "x", None, 6), GO, 0)
        self.found(program, ("here", "x", None, 7), GO, 3)
        self.found(program, ("here", "x", None, FAR), GO, 3 * (FAR // 7))

    def test_differences_and_from_below(self):
        main = loop(("set", "x", (("x", 5),)), ("set", "y", (("y", 3),)))
        program = Program([("x", 0, 0), ("y", 0, 1)], main)
        self.found(program, ("here", "x", "y", FAR), GO, FAR // 2)
        self.found(program, ("here", "y", "x", FAR), GO, None)
        self.found(program, ("here", "y", "x", -1), GO, None)
        self.found(program, ("here", "y", "x", -2), GO, 0)
        self.found(program, ("here", None, "x", -5), GO, None)
        self.found(program, ("here", None, "x", -6), GO, 0)

    def test_endless_values(self):
        self.found(count(), WISH, ("calls", None), -1)
        inside = (("loop", "in", (("set", "x", (("x", 1),)),)),)
        main = (("loop", "go", inside), ("set", "x", (("x", -FAR),)), HERE)
        self.found(Program([("x", 0, 0)], main), ("here", "x", None, FAR), GO, 0)
        three = (("loop", "a", (("loop", "b", inside),)), HERE)
        self.found(Program([("x", 0, 0)], (("call", "f"), HERE), procedures=[("f", three[:1])]),
                   ("here", "x", None, FAR), ("rounds", None), FAR + 2)
        self.found(Program([("x", 0, 0)], (("call", "f"), HERE), procedures=[("f", three[:1])]),
                   ("here", "x", None, FAR), ("rounds", "b"), 0)

    def test_start_and_end_are_one_node(self):
        program = Program([("x", 0, 5)], ())
        self.found(program, (0, "x", None, 4), ("steps", None), -1)
        self.assertEqual(breaking(program, (0, "x", None, 4), ("steps", None)), [("walk", (0, "x", None), ())])

    def test_heads(self):
        self.found(chain(23), ("here", "x", None, FAR), ("rounds", None), FAR)
        for call in [limit, breaking]:
            error = self.failing(TooMany, call, chain(24), ("here", "x", None, FAR), ("rounds", None))
            self.assertEqual(error.limit, 24)
        # With other sizes there are fewer heads.
        self.found(chain(24), ("here", "x", None, FAR), ("calls", "g"), 0)

    def test_against_greatest_values(self):
        seen = {"short": 0, "long": 0, "never": 0}
        for program, condition, size in cases(range(500, 800)):
            found = values(program, condition, size, 5)
            for most in {value + more for value in found if isinstance(value, int) for more in (-1, 0)}:
                wish = with_most(condition, most)
                try:
                    size_found = limit(program, wish, size).size
                except TooMany:
                    continue
                expected = first_above(found, wish[3])
                if expected is not None:
                    self.assertEqual(size_found, expected - 1)
                    seen["short"] += 1
                elif size_found is not None:
                    self.assertGreaterEqual(size_found, 5)
                    seen["long"] += 1
                else:
                    seen["never"] += 1
                self.found(program, wish, size, size_found)
                if size_found is not None and size_found < FAR:
                    beyond = greatest(program, wish, size, size_found + 1)
                    self.assertTrue(beyond == "endless" or beyond > wish[3])
                    if size_found >= 0:
                        value = greatest(program, wish, size, size_found)
                        self.assertTrue(value is None or value <= wish[3])
        self.assertGreater(min(seen.values()), 20)


class Breaking(Case):

    def setUp(self):
        main = loop(("set", "x", (("x", 2), ("y", 1))), ("set", "y", (("x", 0),)))
        self.program = Program([("x", 0, 0), ("y", 0, 4)], main)
        self.first = ("walk", (0, "y", None), ((0, "y", None), (1, "y", None), (2, "x", None)))
        self.again = ("walk", (3, "x", None), ((3, "x", None), (4, "x", None), (5, "x", None), (1, "x", None),
                                               (2, "x", None)))
        self.last = ("walk", (3, "x", None), ((3, "x", None), (4, "x", None)))
        # 4 + 1, then 2 with each other round: 9 with 3 rounds, 11 with 4.
        self.rules = [self.first, self.again, self.last, ("both", 0, 1), ("both", 3, 1), ("both", 4, 2)]

    def is_one(self, value, most=3, bound=8):
        return is_breaking(self.program, ("here", "x", None, bound), GO, most, value)

    def test_edges_of_this_graph(self):
        edges = Graph(self.program).edges
        self.assertEqual([edge[:2] for edge in edges], [(0, 1), (1, 2), (2, 3), (3, 4), (4, 5), (5, 1), (1, 6)])

    def test_accepted(self):
        self.is_true(self.is_one(self.rules))
        self.is_false(self.is_one(self.rules, bound=9))
        self.is_false(self.is_one(self.rules, most=2))
        self.is_true(self.is_one(self.rules, most=10 ** 40))
        end = ("walk", (0, "y", None), self.first[2] + self.again[2] + self.last[2] + ((5, "x", None),))
        self.is_false(self.is_one([end], bound=0), "it ends behind the place")

    def test_rules_that_are_not_needed(self):
        aside = ("walk", (6, "y", None), ())
        self.is_true(self.is_one([aside] + [self.first, self.again, self.last, ("both", 1, 2), ("both", 4, 2),
                                            ("both", 5, 3)]))
        self.is_true(self.is_one(self.rules[:2] + [self.last, ("both", 0, 1), ("both", 3, 1), ("both", 1, 1),
                                                   ("both", 4, 2)]))

    def test_empty_walks(self):
        self.is_true(is_breaking(self.program, (0, "y", None, 3), GO, 0, [("walk", (0, "y", None), ())]))
        self.is_false(is_breaking(self.program, (0, "y", None, 4), GO, 0, [("walk", (0, "y", None), ())]))
        self.is_false(is_breaking(self.program, (0, "x", None, -1), GO, 0, [("walk", (0, "y", None), ())]))
        self.is_false(self.is_one([("walk", (0, "y", None), ())]))
        empty = ("walk", (3, "x", None), ())
        self.is_true(self.is_one([self.first, self.again, self.last, empty, ("both", 0, 3), ("both", 4, 1),
                                  ("both", 5, 1), ("both", 6, 2)]))

    def bent(self, at, rule):
        return self.rules[:at] + [rule] + self.rules[at + 1:]

    def test_bent_walks(self):
        word, node, steps = self.first
        for rule in [("walk", (0, "x", None), steps), ("walk", (1, "y", None), steps), ("walk", (0, "y", "x"), steps),
                     ("walk", (0, None, None), steps), ("walk", (0, "y"), steps), ("walk", [0, "y", None], steps),
                     ("walk", (False, "y", None), steps), ("walk", (0, "go", None), steps), ("walk", "y", steps),
                     ("walk", (0, "y", None), list(steps)), ("walk", (0, "y", None)), ["walk", node, steps],
                     ("walk", node, steps, steps), ("run", node, steps), (b"walk", node, steps), (None, node, steps),
                     ("walk", (-7, "y", None), steps), ("walk", (7, "y", None), steps), ("walk", node, None),
                     ("walk", node, steps[:2]), ("walk", node, steps[1:]), ("walk", node, steps[::-1])]:
            self.is_false(self.is_one(self.bent(0, rule)), rule)

    def test_bent_steps(self):
        for at in range(3):
            edge, plus, minus = self.first[2][at]
            for step in [(edge + 1, plus, minus), (edge - 1, plus, minus), (edge, "x" if plus == "y" else "y", minus),
                         (edge, plus, "x"), (edge, plus, plus), (edge, None, minus), (edge, plus), [edge, plus, minus],
                         (edge, plus, minus, None), (True, plus, minus), (False, plus, minus), (None, plus, minus),
                         (str(edge), plus, minus), (edge, "go", minus), (edge, "here", None), (edge, [], None), None,
                         (99, plus, minus), (-7 + edge, plus, minus), (float(edge), plus, minus), (edge, plus, "go")]:
                steps = self.first[2][:at] + (step,) + self.first[2][at + 1:]
                self.is_false(self.is_one(self.bent(0, ("walk", (0, "y", None), steps))), step)

    def test_bent_joins(self):
        for rule in [("both", 0, 0), ("both", 1, 0), ("both", 0, 3), ("both", 3, 0), ("both", 0, 4), ("both", 0, -5),
                     ("both", -6, 1), ("both", False, True), ("both", 0, True), ("both", "0", 1), ("both", 0, None),
                     ("both", 0), ("both", 0, 1, 2), ["both", 0, 1], ("both", 0.0, 1), ("all", 0, 1), ("both", 2, 1)]:
            self.is_false(self.is_one(self.bent(3, rule)), rule)

    def test_joins_that_do_not_meet(self):
        # All that is wrong with them is that one walk does not begin where the other one ends.
        early = ("walk", (0, "y", None), ((0, "y", None), (1, "y", None)))
        self.is_false(self.is_one([early, self.last, ("both", 0, 1)], bound=-9))
        self.is_true(self.is_one([early, ("walk", (2, "y", None), ((2, "x", None),)), self.last, ("both", 0, 1),
                                  ("both", 3, 2)], bound=-9))
        other = ("walk", (2, "x", None), ((2, "x", None), (3, "x", None)))
        self.is_false(self.is_one([early, other, ("both", 0, 1)], bound=-9))
        self.is_false(self.is_one([self.last, self.first, ("both", 1, 0), ("both", 2, 0)], bound=-9))

    def test_true_and_false_are_no_indices(self):
        rules = [self.first, self.last, ("both", 0, 1)]
        self.is_true(self.is_one(rules, bound=-9))
        for rule in [("both", False, 1), ("both", 0, True), ("both", False, True)]:
            self.is_false(self.is_one(rules[:2] + [rule], bound=-9))

    def test_bent_lists(self):
        self.is_false(self.is_one([]))
        self.is_false(self.is_one(tuple(self.rules)))
        self.is_false(self.is_one(self.rules[:-1]))
        self.is_false(self.is_one(self.rules[::-1]))
        for at in range(len(self.rules)):
            self.is_false(self.is_one(self.rules[:at] + self.rules[at + 1:]), at)

    def test_any_object(self):
        for value in odd_objects() + [0, "walk", {"walk": 1}, [Touchy()], [Agreeing()], [(Touchy(), Touchy(), ())],
                                      [("walk", Touchy(), Touchy())], [("walk", (0, Touchy(), None), ())],
                                      [("walk", (Touchy(), "x", None), ())], [("both", Touchy(), 0)], [None], [[]],
                                      [("walk", (0, "y", None), (Touchy(),))], [("walk", (0, "y", None), ((0, [], {}),))],
                                      [("walk", (0, "y", None), ((Touchy(), "y", None),))]]:
            self.is_false(self.is_one(value))

    def test_wrong_counts(self):
        for most in odd_objects() + [-1, "3", -FAR]:
            for value in [self.rules, None]:
                self.fails(InvalidNumber, most, is_breaking, self.program, WISH, GO, most, value)
        self.is_true(is_breaking(self.program, ("here", "x", None, 8), GO, 3, self.rules))

    def test_many_rules(self):
        rules = self.rules[:3] + [("both", 1, 1)]
        for at in range(3, 2000):
            rules.append(("both", at, at))
        rules += [("both", 0, 2000), ("both", 2001, 2)]
        rules = rules[:2001] + [("both", 0, 2000), ("both", 2001, 2)]
        self.is_true(self.is_one(rules, most=2 ** 2000))
        self.is_false(self.is_one(rules, most=FAR))


class Runs(Case):

    def follows(self, program, condition, rules):
        """The run of a short run, which is looked at."""
        run = as_run(program, condition, rules)
        self.assertIs(type(run), Run)
        return run

    def worth(self, run, condition):
        names = run.machine.program.names
        _, plus, minus, _ = condition
        return sum(sign * run.last.numbers[names.index(name)] for name, sign in [(plus, 1), (minus, -1)]
                   if name is not None)

    def test_parts_and_inputs(self):
        main = (("input", "y", -3, 7), ("set", "x", (("y", 1), ("x", 0), (None, 2))), HERE)
        program = Program([("x", 0, 6), ("y", 0, 0)], main)
        for first, steps, worth in [((0, None, None), ((0, "y", None), (1, "x", None), (2, "x", None)), 8),
                                    ((0, "x", None), ((0, "x", None), (1, "x", None), (2, "x", None)), 6),
                                    ((0, None, None), ((0, None, None), (1, "x", None), (2, "x", None)), 2)]:
            run = self.follows(program, WISH, [("walk", first, steps)])
            self.assertEqual([choice[0] for choice in run.choices], [0, 1, 2])
            self.assertGreaterEqual(run.last.numbers[0], worth)
        main = (("input", "y", -3, 7), ("set", "x", (("y", 1),)), HERE)
        program = Program([("x", 0, 6), ("y", 0, 0)], main)
        rules = [("walk", (0, None, None), ((0, None, "y"), (1, None, "x"), (2, None, "x")))]
        self.assertEqual(self.follows(program, ("here", None, "x", 0), rules).last.numbers, (-2, -3))
        self.assertEqual(self.follows(program, ("here", None, "x", 0), rules).choices, ((0, -3), (1, None), (2, None)))

    def test_made_up(self):
        seen = 0
        for program, condition, size in cases(range(900, 1100)):
            terms = Terms(program, condition, size)
            for most in [-50, 0, 20]:
                wish = with_most(condition, most)
                try:
                    rules = breaking(program, wish, size)
                    if rules is None:
                        continue
                    run = as_run(program, wish, rules)
                except TooMany:
                    continue
                self.assertGreater(self.worth(run, wish), most)
                self.assertEqual(size_of(run, size), limit(program, wish, size).size + 1)
                self.assertIsNotNone(first_break(run, wish))
                self.assertIn(run.last.point, [node[0] for node in terms.ends()])
                self.assertEqual(run.machine.program, program)
                self.assertEqual(run.machine.guards, ())
                seen += 1
        self.assertGreater(seen, 60)

    def test_it_need_not_break(self):
        program = count()
        rules = [("walk", (0, "x", None), ((0, "x", None), (1, "x", None), (2, "x", None), (3, "x", None)))]
        self.assertEqual(self.follows(program, ("here", "x", None, FAR), rules).last.numbers, (3,))

    def test_wrong_papers(self):
        program = count()
        steps = ((0, "x", None), (1, "x", None), (2, "x", None), (3, "x", None))
        for value in odd_objects() + [0, [("walk", (0, "x", None), steps[:3])], [("walk", (1, "x", None), steps[1:])],
                                      [("walk", (0, None, "x"), steps)], [("walk", (0, "x", None), list(steps))],
                                      (("walk", (0, "x", None), steps),), [("both", 0, 0)], [Touchy()]]:
            self.fails(InvalidPaper, value, as_run, program, WISH, value)

    def test_a_thousand_steps(self):
        program = Program([("x", 0, 0)], (("loop", "go", (("set", "x", (("x", 1),)),)),))
        # Three steps to come to the head again.
        around = ("walk", (1, "x", None), ((1, "x", None), (2, "x", None), (3, "x", None)))
        rules = [around] + [("both", at, at) for at in range(8)] + [("both", 8, 6), ("both", 9, 3), ("both", 10, 2),
                                                                   ("both", 11, 0)]
        front = ("walk", (0, "x", None), ((0, "x", None),))
        condition = (1, "x", None, 0)
        rules += [front, ("both", 13, 12)]
        self.assertEqual(256 + 64 + 8 + 4 + 1, 333)
        self.assertEqual(len(as_run(program, condition, rules)), 1000)
        self.assertEqual(as_run(program, condition, rules).last.numbers, (333,))
        last = [("walk", (1, "x", None), ((4 - 0, "x", None),))]
        self.assertEqual(Graph(program).edges[4][:2], (1, 4))
        rules += last + [("both", 14, 15)]
        error = self.failing(TooMany, as_run, program, (4, "x", None, 0), rules)
        self.assertEqual(error.limit, 1000)
        self.fails(InvalidPaper, rules, as_run, program, condition, rules)

    def test_empty_walks_joined_often(self):
        program = Program([("x", 0, 5)], ())
        rules = [("walk", (0, "x", None), ())] + [("both", at, at) for at in range(2000)]
        self.assertEqual(len(as_run(program, (0, "x", None, 0), rules)), 0)
        self.is_true(is_breaking(program, (0, "x", None, 4), ("steps", None), 0, rules))


class Errors(Case):

    def calls(self):
        return [(limit, ()), (breaking, ()), (is_breaking, (None, None))]

    def test_order(self):
        named = Program([("x", 0, 0)], count().main, parameters=[("p", 0, 1)])
        long = Program([("x", 0, 0)], (("call", "f"),) * 40, procedures=[("f", (HERE,) * 40)])
        for call, rest in self.calls():
            for program in [named, None, 0, Touchy()]:
                self.fails(InvalidProgram, program, call, program, None, None, *rest)
            self.assertEqual(self.failing(TooMany, call, long, None, None, *rest).limit, 150)
            for condition in [None, ("there", "x", None, 0), ("here", "x", None, FAR + 1), Touchy()]:
                self.fails(InvalidCondition, condition, call, count(), condition, None, *rest)
            for size in [None, ("rounds", "gone"), Touchy()]:
                self.fails(InvalidSize, size, call, count(), WISH, size, *rest)
        self.fails(InvalidProgram, named, as_run, named, None, None)
        self.assertEqual(self.failing(TooMany, as_run, long, None, None).limit, 150)
        self.fails(InvalidCondition, None, as_run, count(), None, None)
        # is_breaking does not ask for the heads.
        self.is_false(is_breaking(chain(24), WISH, ("rounds", None), 1, None))

    def test_by_name(self):
        self.assertEqual(limit(size=GO, condition=WISH, program=count()).size, 3)
        rules = breaking(size=GO, condition=WISH, program=count())
        self.is_true(is_breaking(value=rules, most=4, size=GO, condition=WISH, program=count()))
        self.assertEqual(as_run(value=rules, condition=WISH, program=count()).last.numbers, (12,))

    def test_new_lists(self):
        first = breaking(count(), WISH, GO)
        kept = list(first)
        first.clear()
        self.assertEqual(breaking(count(), WISH, GO), kept)

    def test_methods_stand_in_the_class(self):
        for name in ["__init__", "size", "__contains__", "__and__", "__bool__", "__eq__", "is_within"]:
            self.assertIn(name, vars(Limit))
        self.assertEqual({thing.__module__ for thing in (Limit, limit, breaking, is_breaking, as_run)},
                         {"safeupto.limits"})


if __name__ == "__main__":
    unittest.main()
