"""Heights and bounds."""

import random
import unittest

from safeupto.errors import InvalidCondition, InvalidNumber, InvalidProgram, InvalidSize, TooMany
from safeupto.limits import limit
from safeupto.papers import bounds, heights, is_bounds, is_heights
from safeupto.programs import Program
from safeupto.terms import Terms
from tests.growing import cases, chain, with_most
from tests.helpers import Agreeing, Case, Touchy, odd_objects

FAR = 10 ** 30
GO = ("rounds", "go")
HERE = ("place", "here")
WISH = ("here", "x", None, 10)


def loop(*body):
    return (("loop", "go", body + (HERE,)),)


def count(gain=3):
    return Program([("x", 0, 0), ("y", 0, 5)], loop(("set", "x", (("x", gain),))))


class Heights(Case):

    def test_just_if_it_holds_for_ever(self):
        seen = {True: 0, False: 0}
        for program, condition, size in cases(range(1100, 1400)):
            for most in [-20, 0, 3, 30, FAR]:
                wish = with_most(condition, most)
                found = heights(program, wish)
                try:
                    self.assertEqual(found is not None, limit(program, wish, size).size is None)
                except TooMany:
                    continue
                seen[found is not None] += 1
                if found is not None:
                    self.assertIs(type(found), dict)
                    self.assertEqual(sorted(found, key=str), sorted(Terms(program, wish, size).nodes(), key=str))
                    self.is_true(is_heights(program, wish, found))
                    self.bent(program, wish, found)
        self.assertGreater(min(seen.values()), 100)

    def bent(self, program, wish, found):
        """The heights are the least ones: none can be less alone, and all can be more only up to the bound."""
        terms = Terms(program, wish, ("steps", None))
        least = max(found[node] for node in terms.ends())
        for more in [0, 1, wish[3] - least, wish[3] - least + 1]:
            other = {node: found[node] + more for node in found}
            self.assertIs(is_heights(program, wish, other), least + more <= wish[3])
        for node in list(found)[:4]:
            self.is_false(is_heights(program, wish, {**found, node: found[node] - 1}))

    def test_edges(self):
        program = count()
        for most, holds in [(4, False), (5, True), (6, True), (FAR, True)]:
            found = heights(program, ("here", "y", None, most))
            self.assertEqual(found is not None, holds)
        self.assertEqual(heights(program, ("here", "y", None, 5)), {(at, "y", None): 5 for at in range(5)})
        self.assertEqual(heights(program, (0, "x", None, 0)), {(0, "x", None): 0})
        self.assertIsNone(heights(program, (0, "x", None, -1)))
        self.assertIsNone(heights(program, ("here", "x", None, FAR)))
        self.assertEqual(heights(count(0), ("here", "x", None, 0)), {(at, "x", None): 0 for at in range(5)})

    def test_bent_heights(self):
        program, wish = count(), ("here", "y", None, 7)
        found = heights(program, wish)
        self.is_true(is_heights(program, wish, {node: 7 for node in found}))
        self.is_true(is_heights(program, wish, {node: found[node] for node in list(found)[::-1]}))
        self.is_true(is_heights(program, wish, {**found, (0, "y", None): 5, (3, "y", None): 5}))
        self.is_false(is_heights(program, wish, {**found, (3, "y", None): 6}))
        self.is_false(is_heights(program, wish, {**found, (0, "y", None): 6}))
        self.is_false(is_heights(program, wish, {node: 8 for node in found}))
        self.is_false(is_heights(program, wish, {node: 4 for node in found}))
        for node in found:
            self.is_false(is_heights(program, wish, {other: found[other] for other in found if other != node}))
            self.is_false(is_heights(program, wish, {(*other, None) if other == node else other: 5 for other in found}))
            for worth in [None, True, "5", 5.0, (5,), [5], Touchy(), Agreeing()]:
                self.is_false(is_heights(program, wish, {**found, node: worth}))
        for node in [(5, "y", None), (0, "x", None), (0, None, None), None, 0, "x", (0, "y"), Agreeing()]:
            self.is_false(is_heights(program, wish, {**found, node: 5}))

    def test_any_object(self):
        for value in odd_objects() + [0, {None: 0}, {Agreeing(): 0}, [(0, "y", None)]]:
            self.is_false(is_heights(count(), ("here", "y", None, 7), value))

    def test_new_dicts(self):
        program, wish = count(), ("here", "y", None, 5)
        first = heights(program, wish)
        first.clear()
        self.assertEqual(len(heights(program, wish)), 5)

    def test_great_numbers(self):
        main = (("set", "x", (("x", FAR),)),) * 30 + (("set", "x", (("x", -FAR),)),) * 29 + (HERE,)
        program = Program([("x", 0, 0)], (("call", "f"), ("call", "g"), HERE), procedures=[("f", main[:30]),
                                                                                            ("g", main[30:59])])
        found = heights(program, ("here", "x", None, FAR))
        self.assertEqual(max(found.values()), 30 * FAR)
        self.assertIsNone(heights(program, ("here", "x", None, FAR - 1)))

    def test_errors(self):
        named = Program([("x", 0, 0)], count().main, parameters=[("p", 0, 1)])
        long = Program([("x", 0, 0)], (("call", "f"),) * 40, procedures=[("f", (HERE,) * 40)])
        for call, rest in [(heights, ()), (is_heights, (None,))]:
            for program in [named, None, Touchy()]:
                self.fails(InvalidProgram, program, call, program, None, *rest)
            self.assertEqual(self.failing(TooMany, call, long, None, *rest).limit, 150)
            for condition in [None, ("there", "x", None, 0), Touchy()]:
                self.fails(InvalidCondition, condition, call, count(), condition, *rest)
        # There is no limit for heads.
        found = heights(condition=(0, "x", None, 0), program=chain(24))
        self.is_true(is_heights(value=found, condition=(0, "x", None, 0), program=chain(24)))
        self.assertIsNone(heights(chain(24), ("here", "x", None, 0)))


class Bounds(Case):

    def setUp(self):
        self.program = count()
        self.wish = ("here", "x", None, 10)

    def accepted(self, most, value, wish=None):
        return is_bounds(self.program, wish or self.wish, GO, most, value)

    def test_example(self):
        zero, levels = bounds(self.program, ("here", "x", None, 9), GO, 3)
        begin, head = (0, "x", None), (2, "x", None)
        self.assertEqual(zero, {(begin, begin): 0, (begin, (1, "x", None)): 0, (head, head): 0,
                                (head, (3, "x", None)): 3, (head, (4, "x", None)): 3, (head, (1, "x", None)): 3})
        self.assertEqual(levels, [{(begin, begin): 0, (begin, head): 0, (head, head): 3},
                                  {(begin, begin): 0, (begin, head): 3, (head, head): 6}])

    def test_around_the_limit(self):
        for most in range(4):
            found = bounds(self.program, self.wish, GO, most)
            self.assertEqual((type(found), type(found[0]), type(found[1])), (tuple, dict, list))
            self.assertEqual(len(found[1]), most.bit_length())
            self.is_true(self.accepted(most, found))
        self.assertIsNone(bounds(self.program, self.wish, GO, 4))
        self.assertIsNone(bounds(self.program, self.wish, GO, FAR))
        for most in range(8):
            self.is_false(self.accepted(4, bounds(self.program, ("here", "x", None, 90), GO, most)))

    def test_great_counts(self):
        wish = ("here", "x", None, FAR)
        edge = FAR // 3
        found = bounds(self.program, wish, GO, edge)
        self.assertEqual(len(found[1]), edge.bit_length())
        self.is_true(self.accepted(edge, found, wish))
        self.is_false(self.accepted(edge, found, ("here", "x", None, FAR - 2)))
        self.assertIsNone(bounds(self.program, wish, GO, edge + 1))
        self.is_false(self.accepted(edge + 1, found, wish))
        calm = count(0)
        found = bounds(calm, ("here", "x", None, 0), GO, FAR)
        self.is_true(is_bounds(calm, ("here", "x", None, 0), GO, FAR, found))

    def test_no_levels(self):
        found = bounds(self.program, self.wish, GO, 0)
        self.assertEqual(found[1], [])
        self.is_true(self.accepted(0, found))
        self.is_false(self.accepted(0, (found[0], [{}])))
        self.is_false(self.accepted(1, found))

    def test_made_up(self):
        seen = {True: 0, False: 0, "endless": 0}
        for program, condition, size in cases(range(1500, 1700)):
            for most in [-5, 5, 100]:
                wish = with_most(condition, most)
                try:
                    edge = limit(program, wish, size)
                except TooMany:
                    continue
                for amount in {0, 1, 2, 3, 6, FAR, max(0, min(FAR, edge.size or 0)), max(0, min(FAR, edge.size or 0)) + 1}:
                    amount = min(amount, FAR)
                    found = bounds(program, wish, size, amount)
                    self.assertEqual(found is not None, amount in edge)
                    if found is not None:
                        self.is_true(is_bounds(program, wish, size, amount, found))
                        seen["endless"] += "endless" in found[0].values()
                    seen[found is not None] += 1
        self.assertGreater(min(seen.values()), 8)

    def test_endless(self):
        inside = (("loop", "in", (("set", "x", (("x", 1),)),)),)
        program = Program([("x", 0, 0)], inside + (("loop", "go", (HERE,)),))
        self.assertIsNone(bounds(program, WISH, GO, 1))
        zero, levels = bounds(program, WISH, GO, 0)
        self.assertEqual(zero[((0, "x", None), (1, "x", None))], "endless")
        self.is_true(is_bounds(program, WISH, GO, 0, (zero, levels)))
        for key in [key for key in zero if zero[key] == "endless"]:
            for bound in [0, 10 ** 60, None, True, "endles", b"endless"]:
                self.is_false(is_bounds(program, WISH, GO, 0, ({**zero, key: bound}, levels)))
        # Behind the first round it is endless, and the place is only behind the second one.
        program = Program([("x", 0, 0)], (("loop", "a", inside), ("loop", "b", (HERE,))))
        found = bounds(program, WISH, ("rounds", None), 1)
        self.assertIsNotNone(found)
        self.is_true(is_bounds(program, WISH, ("rounds", None), 1, found))
        program = Program([("x", 0, 0)], (("loop", "go", inside), ("loop", "b", (HERE,))))
        outer = ("rounds", "b")
        found = bounds(program, WISH, outer, 0)
        self.assertIn("endless", found[0].values())
        self.is_true(is_bounds(program, WISH, outer, 0, found))
        # An integer may be made endless, which is greater, if what follows from it is endless, too.
        key = ((0, "x", None), (0, "x", None))
        self.is_true(is_bounds(program, WISH, outer, 0, ({**found[0], key: "endless"}, found[1])))

    def test_endless_in_levels(self):
        # One comes into the ring that gains with the first counted round, and out of it with the second one.
        inside = ("loop", "in", (("set", "x", (("x", 1),)),))
        program = Program([("x", 0, 0)], (("loop", "a", (inside,)), ("loop", "b", (HERE,))))
        size = ("rounds", None)
        outer = Program([("x", 0, 0)], (("call", "f"), inside, ("call", "f"), HERE), procedures=[("f", ())])
        wish = ("here", "x", None, 10)
        self.assertEqual(limit(outer, wish, ("calls", None)).size, 1)
        zero, levels = bounds(outer, wish, ("calls", None), 1)
        self.assertIn("endless", list(zero.values()) + list(levels[0].values()))
        self.is_true(is_bounds(outer, wish, ("calls", None), 1, (zero, levels)))
        deeper = Program([("x", 0, 0)], (("call", "f"), inside) + (("call", "f"),) * 3 + (HERE,),
                         procedures=[("f", ())])
        zero, levels = bounds(deeper, wish, ("calls", None), 3)
        self.assertIn("endless", levels[0].values())
        self.assertIn("endless", levels[1].values())
        self.is_true(is_bounds(deeper, wish, ("calls", None), 3, (zero, levels)))
        self.assertIsNone(bounds(deeper, wish, ("calls", None), 4))
        for at, level in enumerate(levels):
            for key in level:
                if level[key] == "endless":
                    bent = levels[:at] + [{**level, key: 10 ** 40}] + levels[at + 1:]
                    self.is_false(is_bounds(deeper, wish, ("calls", None), 3, (zero, bent)))
        self.assertIsNotNone(bounds(program, wish, size, 1))

    def test_bent_bounds(self):
        most = 3
        zero, levels = bounds(self.program, self.wish, GO, most)
        self.is_true(self.accepted(most, (zero, levels)))
        for key in zero:
            self.is_false(self.accepted(most, ({**zero, key: zero[key] - 1}, levels)), key)
            self.is_false(self.accepted(most, ({other: zero[other] for other in zero if other != key}, levels)), key)
            for bound in [None, True, "0", 3.0, (0,), "endless ", "Endless", Touchy(), Agreeing()]:
                self.is_false(self.accepted(most, ({**zero, key: bound}, levels)))
        for at, level in enumerate(levels):
            def with_level(other):
                return (zero, levels[:at] + [other] + levels[at + 1:])
            for key in level:
                self.is_false(self.accepted(most, with_level({**level, key: level[key] - 1})), (at, key))
                self.is_false(self.accepted(most, with_level({one: level[one] for one in level if one != key})))
                for bound in [None, True, "0", 3.0, [], Touchy()]:
                    self.is_false(self.accepted(most, with_level({**level, key: bound})))
            for key in [((0, "x", None), (1, "x", None)), ((2, "x", None), (3, "x", None)), None, (), "x",
                        ((2, "x", None),), ((2, "x", None), (2, "x", None), (2, "x", None)), (Agreeing(), Agreeing())]:
                self.is_false(self.accepted(most, with_level({**level, key: 0})))
            for other in [None, [], (), list(level.items()), 0, Touchy()]:
                self.is_false(self.accepted(most, with_level(other)))

    def test_greater_bounds(self):
        zero, levels = bounds(self.program, ("here", "x", None, 90), GO, 2)
        begin, head = (0, "x", None), (2, "x", None)
        # Only what is asked for at the end counts: 3 for a round, and so 6 for two.
        self.is_true(self.accepted(2, (zero, levels), ("here", "x", None, 6)))
        wider = (zero, [levels[0], {**levels[1], (begin, head): 7}])
        self.is_true(self.accepted(2, wider, ("here", "x", None, 10)))
        self.is_false(self.accepted(2, wider, ("here", "x", None, 9)))
        endless = (zero, [levels[0], {**levels[1], (head, head): "endless"}])
        self.is_true(self.accepted(2, endless, ("here", "x", None, 6)))
        self.is_false(self.accepted(2, (zero, [levels[0], {**levels[1], (begin, head): "endless"}])))
        self.is_false(self.accepted(2, (zero, [{**levels[0], (head, head): "endless"}, levels[1]])))

    def test_keys_that_are_put_in(self):
        zero, levels = bounds(self.program, ("here", "x", None, 90), GO, 2)
        begin, head = (0, "x", None), (2, "x", None)
        wide = ("here", "x", None, 90)
        # What follows from a key must be there, too.
        self.is_false(self.accepted(2, ({**zero, (begin, (3, "x", None)): 0}, levels), wide))
        more = {**zero, (begin, (3, "x", None)): -5, (begin, (4, "x", None)): -5}
        self.is_true(self.accepted(2, (more, levels), wide))
        self.is_true(self.accepted(2, (zero, levels[:1] + [{**levels[1], (head, begin): -FAR}]), wide))
        self.is_false(self.accepted(2, (zero, [{**levels[0], (head, begin): -FAR}, levels[1]]), wide))
        # A beginning node can be come to from nowhere, but a key says nothing of this.
        self.is_false(self.accepted(2, ({**zero, (begin, (5, "x", None)): 0}, levels), wide))
        self.is_false(self.accepted(2, ({**zero, ((1, "x", None), (1, "x", None)): 0}, levels), wide))

    def test_keys_in_any_order(self):
        chance = random.Random(4)
        for program, condition, size in cases(range(1720, 1760)):
            wish = with_most(condition, FAR)
            try:
                found = bounds(program, wish, size, 1000)
            except TooMany:
                continue
            if found is None:
                continue
            # More orders than are remembered, and the same ones again.
            for _ in range(6):
                zero, *levels = [dict(chance.sample(list(table.items()), len(table))) for table in [found[0], *found[1]]]
                self.is_true(is_bounds(program, wish, size, 1000, (zero, levels)))
                at = chance.randrange(len(levels))
                key = chance.choice(list(levels[at]))
                bent = [{one: levels[at][one] for one in levels[at] if one != key}]
                if levels[at][key] != "endless":
                    bent.append({**levels[at], key: levels[at][key] - 1})
                for level in bent:
                    self.is_false(is_bounds(program, wish, size, 1000, (zero, levels[:at] + [level] + levels[at + 1:])))
                self.is_true(is_bounds(program, wish, size, 1000, found))

    def test_in_order(self):
        # What is returned stands in the order of the nodes, as texts of it do.
        def order(node):
            return tuple((side is not None, side) for side in node)
        for program, condition, size in cases(range(1760, 1800)):
            wish = with_most(condition, FAR)
            found = heights(program, wish)
            if found is not None:
                self.assertEqual(list(found), sorted(found, key=order))
            try:
                zero, levels = bounds(program, wish, size, 9) or ({}, [])
            except TooMany:
                continue
            for table in [zero, *levels]:
                self.assertEqual(list(table), sorted(table, key=lambda pair: (order(pair[0]), order(pair[1]))))

    def test_levels_more_or_less(self):
        zero, levels = bounds(self.program, self.wish, GO, 3)
        self.is_false(self.accepted(3, (zero, levels[:1])))
        self.is_false(self.accepted(3, (zero, levels + levels[1:])))
        self.is_false(self.accepted(3, (zero, [])))
        self.is_false(self.accepted(3, (zero, levels[::-1])))
        self.is_true(self.accepted(2, (zero, levels)))
        self.is_false(self.accepted(1, (zero, levels)))

    def test_kinds(self):
        zero, levels = bounds(self.program, self.wish, GO, 3)
        for value in odd_objects() + [[zero, levels], (zero, tuple(levels)), (zero,), (zero, levels, None), (levels, zero),
                                      (None, levels), (zero, None), (list(zero.items()), levels), (Touchy(), levels)]:
            self.is_false(self.accepted(3, value))

    def test_wrong_counts(self):
        for most in odd_objects() + [-1, FAR + 1, "1"]:
            self.fails(InvalidNumber, most, bounds, self.program, self.wish, GO, most)
            self.fails(InvalidNumber, most, is_bounds, self.program, self.wish, GO, most, None)

    def test_heads(self):
        program, size = chain(23), ("rounds", None)
        wish = ("here", "x", None, FAR)
        found = bounds(program, wish, size, FAR)
        self.assertEqual(len(found[1]), 100)
        self.is_true(is_bounds(program, wish, size, FAR, found))
        wish = ("here", "x", None, FAR - 1)
        self.is_false(is_bounds(program, wish, size, FAR, found))
        self.assertIsNone(bounds(program, wish, size, FAR))
        for call, rest in [(bounds, ()), (is_bounds, (None,))]:
            self.assertEqual(self.failing(TooMany, call, chain(24), wish, size, None, *rest).limit, 24)

    def test_new_papers(self):
        first = bounds(self.program, self.wish, GO, 3)
        first[0].clear()
        first[1][0].clear()
        first[1].clear()
        self.is_true(self.accepted(3, bounds(self.program, self.wish, GO, 3)))

    def test_errors(self):
        named = Program([("x", 0, 0)], count().main, parameters=[("p", 0, 1)])
        long = Program([("x", 0, 0)], (("call", "f"),) * 40, procedures=[("f", (HERE,) * 40)])
        for call, rest in [(bounds, (None,)), (is_bounds, (None, None))]:
            for program in [named, None, Touchy()]:
                self.fails(InvalidProgram, program, call, program, None, None, *rest)
            self.assertEqual(self.failing(TooMany, call, long, None, None, *rest).limit, 150)
            self.fails(InvalidCondition, None, call, count(), None, None, *rest)
            for size in [None, ("rounds", "gone"), Touchy()]:
                self.fails(InvalidSize, size, call, count(), WISH, size, *rest)
        found = bounds(most=2, size=GO, condition=WISH, program=count())
        self.is_true(is_bounds(value=found, most=2, size=GO, condition=WISH, program=count()))


if __name__ == "__main__":
    unittest.main()
