"""Formulas."""

import random
import unittest

from safeupto.errors import InvalidCondition, InvalidNumber, InvalidPaper, InvalidProgram, InvalidSize, TooMany
from safeupto.formulas import Formula, formula
from safeupto.limits import Limit, limit
from safeupto.programs import Program
from safeupto.values import greatest
from tests.growing import cases, chain, with_most
from tests.helpers import Agreeing, Case, Touchy, odd_objects

FAR = 10 ** 30
GO = ("rounds", "go")
ALL = ("rounds", None)
HERE = ("place", "here")
WISH = ("here", "x", None, 0)


def loop(*body):
    return (("loop", "go", body + (HERE,)),)


def plain_value(firsts, stairs, endless, count):
    """The value of a formula, as the document tells it."""
    if endless is not None and count >= endless:
        return "endless"
    if count < len(firsts):
        return firsts[count]
    found = [value + gain * (count // period) for offset, period, value, gain in stairs if count % period == offset]
    return max(found) if found else None


def plain_limit(formula_found, most, far):
    """The size up to which the values of a formula are at most most, looked for up to far."""
    for count in range(far):
        value = formula_found.greatest(count)
        if value == "endless" or (value is not None and value > most):
            return count - 1
    return None


def made_up(seed):
    chance = random.Random(seed)
    firsts = [chance.choice([None, -3, 0, 2, 7, 12]) for _ in range(chance.randint(0, 4))]
    stairs = []
    for _ in range(chance.randint(0, 4)):
        period = chance.randint(1, 4)
        stairs.append((chance.randrange(period), period, chance.randint(-9, 9), chance.choice([0, 0, 1, 2, 5])))
    return firsts, stairs, chance.choice([None, None, 0, 1, 3, 6, 9])


class Made(Case):

    def test_kept(self):
        found = Formula([1, None], [(1, 2, 5, 0), (0, 2, -4, 3), (0, 1, 7, 7)], 9)
        self.assertEqual(found.firsts, [1, None])
        self.assertEqual(found.stairs, [(0, 1, 7, 7), (0, 2, -4, 3), (1, 2, 5, 0)])
        self.assertEqual(found.endless, 9)
        found = Formula(endless=None, stairs=[], firsts=[])
        self.assertEqual((found.firsts, found.stairs, found.endless), ([], [], None))
        found = Formula([FAR, -FAR], [(FAR - 1, FAR, -FAR, FAR)], FAR)
        self.assertEqual((found.firsts, found.stairs, found.endless), ([FAR, -FAR], [(FAR - 1, FAR, -FAR, FAR)], FAR))

    def test_new_lists(self):
        firsts, stairs = [1], [(0, 1, 7, 7)]
        found = Formula(firsts, stairs, None)
        firsts.append(2)
        stairs.clear()
        found.firsts.append(2)
        found.stairs.clear()
        self.assertEqual((found.firsts, found.stairs), ([1], [(0, 1, 7, 7)]))
        self.assertIs(type(found.firsts), list)
        self.assertIs(type(found.stairs), list)

    def wrong(self, firsts, stairs, endless):
        error = self.failing(InvalidPaper, Formula, firsts, stairs, endless)
        self.assertIs(type(error.value), tuple)
        self.assertEqual(len(error.value), 3)
        for kept, given in zip(error.value, (firsts, stairs, endless)):
            self.assertIs(kept, given)

    def test_wrong_firsts(self):
        for firsts in odd_objects():
            if type(firsts) is not list:
                self.wrong(firsts, [], None)
        for firsts in [(1,), (), [True], ["1"], [1, 2.0], [[1]], [Touchy()], [Agreeing()]]:
            self.wrong(firsts, [], None)

    def test_wrong_stairs(self):
        for stairs in odd_objects():
            if type(stairs) is not list:
                self.wrong([], stairs, None)
        for stair in [(0, 1, 0), (0, 1, 0, 0, 0), [0, 1, 0, 0], (0, 0, 0, 0), (1, 1, 0, 0), (5, 4, 0, 0), (-1, 4, 0, 0),
                      (0, -1, 0, 0), (0, 1, 0, -1), (False, 1, 0, 0), (0, True, 0, 0), (0, 1, True, 0), (0, 1, 0, False),
                      (0, 1, None, 0), (0.0, 1, 0, 0), (0, 1, "0", 0), None, 0, (), Touchy(), (Touchy(), 1, 0, 0)]:
            self.wrong([], [stair], None)
            self.wrong([], [(0, 1, 0, 0), stair], None)
        self.wrong([], ((0, 1, 0, 0),), None)

    def test_wrong_endless(self):
        for endless in odd_objects() + [-1, "1", (1,), -FAR]:
            if endless is not None:
                self.wrong([], [], endless)


class Greatest(Case):

    def test_edges(self):
        found = Formula([4, None, 2], [(0, 2, 10, 1), (1, 4, -5, 3)], 12)
        self.assertEqual([found.greatest(count) for count in range(14)],
                         [4, None, 2, None, 12, -2, 13, None, 14, 1, 15, None, "endless", "endless"])
        self.assertEqual(found.greatest(count=FAR), "endless")
        self.assertEqual(Formula([7, 8, 9], [], 1).greatest(1), "endless")
        self.assertEqual(Formula([7, 8, 9], [], 1).greatest(0), 7)
        self.assertEqual(Formula([7], [], 0).greatest(0), "endless")
        self.assertIsNone(Formula([], [], None).greatest(0))
        self.assertIsNone(Formula([], [], None).greatest(10 ** 60))
        self.assertEqual(Formula([], [(0, 1, -3, 2)], None).greatest(10 ** 60), 2 * 10 ** 60 - 3)
        several = Formula([], [(1, 3, 0, 5), (1, 3, 12, 1), (1, 3, 3, 3), (1, 2, -100, 9)], None)
        self.assertEqual([several.greatest(count) for count in [1, 4, 7, 10, 13, 16, 61]], [12, 13, 14, 15, 20, 25, 170])

    def test_made_up(self):
        for seed in range(200):
            firsts, stairs, endless = made_up(seed)
            found = Formula(firsts, stairs, endless)
            for count in range(20):
                self.assertEqual(found.greatest(count), plain_value(firsts, stairs, endless, count))

    def test_wrong_counts(self):
        found = Formula([1], [], 5)
        for count in odd_objects() + [-1, "1", -FAR]:
            self.fails(InvalidNumber, count, found.greatest, count)


class Called(Case):

    def test_edges(self):
        found = Formula([4, None, 9, 5], [(0, 2, 0, 1), (1, 2, 6, 0)], None)
        self.assertEqual([found(most).size for most in [3, 4, 5, 8, 9, 10, 100]], [-1, 1, 1, 1, 19, 21, 201])
        self.assertIs(type(found(most=4)), Limit)
        self.assertEqual(Formula([], [(0, 1, 5, 0)], None)(4).size, -1)
        self.assertIsNone(Formula([], [(0, 1, 5, 0)], None)(5).size)
        self.assertEqual(Formula([1, 2], [(0, 3, 5, 0)], None)(4).size, 2)
        self.assertEqual(Formula([1, 2], [(1, 3, 5, 0)], None)(4).size, 3)
        self.assertEqual(Formula([1, 2], [(2, 3, 5, 0)], None)(4).size, 1)
        self.assertEqual(Formula([None], [], None)(-FAR).size, None)
        self.assertEqual(Formula([], [], 0)(FAR).size, -1)
        self.assertEqual(Formula([1, 2, 3], [], 2)(1).size, 0)
        self.assertEqual(Formula([1, 2, 3], [], 2)(2).size, 1)
        self.assertEqual(Formula([1, 2, 3], [(0, 1, 0, 1)], 9)(2).size, 1)
        self.assertEqual(Formula([1, 2, 3], [(0, 1, 0, 1)], 9)(3).size, 3)
        self.assertEqual(Formula([1, 2, 3], [(0, 1, 0, 1)], 9)(50).size, 8)
        self.assertEqual(Formula([], [(0, 1, 0, 1)], FAR)(10 ** 60).size, FAR - 1)
        self.assertEqual(Formula([], [(0, 1, 0, 1)], None)(10 ** 60).size, 10 ** 60)
        self.assertEqual(Formula([], [(0, FAR, 0, FAR)], None)(FAR ** 3).size, (FAR ** 2 + 1) * FAR - 1)
        self.assertEqual(Formula([], [(7, FAR, 0, 1)], None)(0).size, FAR + 6)

    def test_made_up(self):
        seen = {"ever": 0, "not": 0}
        for seed in range(300):
            found = Formula(*made_up(seed))
            for most in [-20, -3, 0, 5, 11, 30]:
                size = found(most).size
                plain = plain_limit(found, most, 200)
                self.assertEqual(size, plain)
                seen["ever" if size is None else "not"] += 1
        self.assertGreater(min(seen.values()), 50)

    def test_wrong_bounds(self):
        found = Formula([1], [], None)
        for most in odd_objects() + ["1", (1,)]:
            self.fails(InvalidNumber, most, found, most)


class Operators(Case):

    def test_both(self):
        for seed in range(250):
            one, other = Formula(*made_up(seed)), Formula(*made_up(seed + 1000))
            before = (one.firsts, one.stairs, one.endless, other.firsts, other.stairs, other.endless)
            both = one | other
            self.assertIs(type(both), Formula)
            for count in list(range(25)) + [60, 121, 10 ** 40]:
                values = [value for value in (one.greatest(count), other.greatest(count)) if value is not None]
                expected = "endless" if "endless" in values else max(values, default=None)
                self.assertEqual(both.greatest(count), expected)
            for most in [-5, 3, 20]:
                self.assertEqual(both(most), one(most) & other(most))
            self.assertEqual(before, (one.firsts, one.stairs, one.endless, other.firsts, other.stairs, other.endless))

    def test_unlike_periods(self):
        one, other = Formula([], [(0, FAR, 0, 1)], None), Formula([5], [(3, FAR - 1, 2, 0)], None)
        both = one | other
        self.assertEqual([both.greatest(count) for count in [0, 1, 3, FAR, FAR + 2, 7 * FAR]], [5, None, 2, 1, 2, 7])

    def test_sum(self):
        for seed in range(100):
            one = Formula(*made_up(seed))
            before = (one.firsts, one.stairs, one.endless)
            for number in [0, 1, -7, FAR, -FAR]:
                more = one + number
                self.assertIs(type(more), Formula)
                for count in list(range(20)) + [10 ** 40]:
                    value = one.greatest(count)
                    self.assertEqual(more.greatest(count), value + number if isinstance(value, int) else value)
            self.assertEqual(before, (one.firsts, one.stairs, one.endless))


class OfPrograms(Case):

    def test_made_up(self):
        seen = {"endless": 0, "stairs": 0, "late": 0}
        for program, condition, size in cases(range(3000, 3400)):
            try:
                found = formula(program, condition, size)
            except TooMany:
                continue
            edge = len(found.firsts)
            counts = sorted({*range(12), *range(max(0, edge - 2), edge + 3), 10 ** 15 + 7, FAR - 1, FAR})
            self.assertEqual([found.greatest(count) for count in counts],
                             [greatest(program, condition, size, count) for count in counts])
            for most in [-FAR, -4, 0, 7, 10 ** 12, FAR]:
                self.assertEqual(found(most), limit(program, with_most(condition, most), size))
            seen["endless"] += found.endless is not None
            seen["stairs"] += any(gain > 0 for _, _, _, gain in found.stairs)
            seen["late"] += len(found.firsts) > 3 or any(period > 1 for _, period, _, _ in found.stairs)
        self.assertGreater(min(seen.values()), 5)

    def test_better_behind_a_loss(self):
        for loss in [10, 10 ** 15, FAR]:
            main = (("loop", "a", (("set", "x", (("x", 3),)),)), ("either", (), (("set", "x", (("x", -loss),)),
                    ("loop", "b", (("set", "x", (("x", 4),)),)))), HERE)
            found = formula(Program([("x", 0, 0)], main), WISH, ALL)
            for count in [0, 1, 5, loss - 1, loss, loss + 1, 3 * loss, 10 ** 40]:
                self.assertEqual(found.greatest(count), max(3 * count, 4 * count - loss if count > 0 else 0))
            self.assertLess(len(found.firsts), 1000)
            self.assertEqual(found(3 * loss).size, loss)
            self.assertEqual(found(3 * loss + 3).size, loss)
            self.assertEqual(found(3 * loss + 4).size, loss + 1)

    def test_rings_of_unlike_counts(self):
        # One ring takes two rounds, another one three, and both gain.
        two = (("either", (("set", "x", (("y", 5),)),), (("set", "y", (("x", 0),)),)),)
        three = (("set", "w", (("z", 7),)), ("set", "z", (("y", 0),)), ("set", "y", (("x", 0),)), ("set", "x", (("w", 0),)))
        variables = [(name, 0, 0) for name in "xyzw"]
        for body in [two, three, (("either", two, three),)]:
            program = Program(variables, (("loop", "go", body), HERE))
            found = formula(program, WISH, GO)
            for count in list(range(60)) + [FAR - k for k in range(13)]:
                self.assertEqual(found.greatest(count), greatest(program, WISH, GO, count))
        self.assertGreater(max(stair[1] for stair in found.stairs), 1)
        self.assertEqual([formula(Program(variables, (("loop", "go", three), HERE)), WISH, GO).greatest(count)
                          for count in [2, 3, 4, 3 * 10 ** 30, 3 * 10 ** 30 + 1]], [7, 7, 14, 7 * FAR, 7 * FAR + 7])

    def test_endless(self):
        inside = (("loop", "in", (("set", "x", (("x", 1),)),)),)
        found = formula(Program([("x", 2, 2)], (("loop", "go", inside), HERE)), WISH, GO)
        self.assertEqual((found.endless, found.greatest(0), found.greatest(1)), (1, 2, "endless"))
        self.assertEqual(found(FAR).size, 0)
        self.assertEqual(found(1).size, -1)

    def test_most_does_not_count(self):
        program = Program([("x", 0, 0)], loop(("set", "x", (("x", 3),))))
        for most in [-FAR, FAR]:
            self.assertEqual(formula(program, with_most(WISH, most), GO).greatest(FAR), 3 * FAR)

    def test_heads(self):
        found = formula(chain(11), WISH, ALL)
        self.assertEqual(found.greatest(10 ** 40), 10 ** 40)
        self.assertEqual(self.failing(TooMany, formula, chain(12), WISH, ALL).limit, 12)

    def test_errors(self):
        program = Program([("x", 0, 0)], loop(("set", "x", (("x", 3),))))
        named = Program([("x", 0, 0)], program.main, parameters=[("p", 0, 1)])
        long = Program([("x", 0, 0)], (("call", "f"),) * 40, procedures=[("f", (HERE,) * 40)])
        for wrong in [named, None, Touchy()]:
            self.fails(InvalidProgram, wrong, formula, wrong, None, None)
        self.assertEqual(self.failing(TooMany, formula, long, None, None).limit, 150)
        for condition in [None, ("there", "x", None, 0), Touchy()]:
            self.fails(InvalidCondition, condition, formula, program, condition, None)
        for size in [None, ("rounds", "gone"), Touchy()]:
            self.fails(InvalidSize, size, formula, program, WISH, size)
        self.assertEqual(formula(size=GO, condition=WISH, program=program)(10).size, 3)

    def test_methods_stand_in_the_class(self):
        for name in ["__init__", "firsts", "stairs", "endless", "greatest", "__call__", "__or__", "__add__"]:
            self.assertIn(name, vars(Formula))
        self.assertEqual((Formula.__module__, formula.__module__), ("safeupto.formulas",) * 2)


if __name__ == "__main__":
    unittest.main()
