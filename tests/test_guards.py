"""Guards: greatest values with them, the least costly ones, and papers about them."""

import itertools
import random
import unittest

from safeupto.errors import InvalidCondition, InvalidName, InvalidProgram, TooMany
from safeupto.formats import format_program, parse_program
from safeupto.graphs import Graph
from safeupto.guards import (broken_by, capped_heights, cheaper, greatest_with, is_broken_by, is_capped_heights, is_enough,
                             least_guards)
from safeupto.machine import Machine, runs
from safeupto.programs import Program
from safeupto.terms import Terms
from tests.guarding import STEPS, capped_steps, followed, guarded, plain_greatest, plain_values, steps_told
from tests.helpers import Agreeing, Case, Touchy, odd_names, odd_objects

FAR = 10 ** 30
HERE = ("place", "here")


def up(variable="x", gain=1):
    return ("set", variable, ((variable, gain),))


def guard(name, variable="x", most=10, cost=1):
    return ("guard", name, variable, most, cost)


def loop(*body):
    return (("loop", "go", body),)


def of(*main, variables="x", **rest):
    return Program([(name, 0, 0) for name in variables], main, **rest)


def wish(most, plus="x", place="here"):
    return (place, plus, None, most)


class Greatest(Case):

    def test_against_small_steps(self):
        seen = {"endless": 0, int: 0}
        for seed, program in guarded(range(40000, 40350)):
            chance = random.Random(seed)
            plus = chance.choice([None, *program.names])
            place = chance.choice(["here", Graph(program).end, chance.randrange(Graph(program).points)])
            names = [name for name in program.guards if chance.random() < 0.7]
            chance.shuffle(names)
            if plus is None:
                continue
            found = greatest_with(program, (place, plus, None, 0), names)
            self.assertEqual(found, plain_greatest(program, (place, plus, None, 0), names), seed)
            self.assertEqual(found, greatest_with(program, (place, plus, None, 0), tuple(sorted(names))))
            seen[found if found == "endless" else type(found)] += 1
            for most in [-1, 0, 3, 10, FAR] + ([found - 1, found, found + 1] if found != "endless" else []):
                self.assertIs(is_enough(program, (place, plus, None, most), names), found != "endless" and found <= most)
        self.assertGreater(min(seen.values()), 10)

    def test_against_all_runs(self):
        reached = 0
        for seed, program in guarded(range(41000, 41120), points=16):
            chance = random.Random(seed)
            names = [name for name in program.guards if chance.random() < 0.7]
            machine, found, end = Machine(program, guards=names), {}, {}
            for most in range(8):
                for run in itertools.islice(runs(machine, most), 400):
                    for at, name in enumerate(program.names):
                        key = (run.last.point, name)
                        found[key] = max(found.get(key, -FAR), run.last.numbers[at])
            for point, name in found:
                end = greatest_with(program, (point, name, None, 0), names)
                self.assertTrue(end == "endless" or found[point, name] <= end, seed)
                reached += found[point, name] == end
        self.assertGreater(reached, 200)

    def test_without_guards_chosen(self):
        program = of(*loop(up(), guard("g"), HERE))
        self.assertEqual(greatest_with(program, wish(0), ()), "endless")
        self.assertEqual(greatest_with(program, wish(0), ["g"]), 10)
        self.assertEqual(greatest_with(of(HERE), wish(0), []), 0)

    def test_where_guards_stand(self):
        for body, expected in [
                (loop(guard("g"), up(), HERE), 11), (loop(up(), HERE, guard("g")), 11), (loop(up(), guard("g"), HERE), 10),
                ((*loop(up()), guard("g"), HERE), 10), ((guard("g"), *loop(up()), HERE), "endless"),
                ((*loop(up()), HERE, guard("g")), "endless"),
                ((*loop(up()), ("either", (guard("g"),), ()), HERE), "endless"),
                ((*loop(up()), ("either", (guard("g"),), (("set", "x", ((None, 3),)),)), HERE), 10),
                (loop(("either", (up(gain=3),), (up(gain=-1),)), guard("g", most=-5), HERE), -5),
                (loop(up(gain=7), guard("g"), ("set", "x", (("x", -8),)), HERE), -1),
                (loop(up(gain=17), guard("g"), ("set", "x", (("x", -8),)), HERE), 2)]:
            self.assertEqual(greatest_with(of(*body), wish(0), ["g"]), expected, body)

    def test_bound_below_the_start(self):
        program = Program([("x", 0, 50)], (HERE, guard("g"), ("place", "there")))
        self.assertEqual(greatest_with(program, wish(0), ["g"]), 50)
        self.assertEqual(greatest_with(program, wish(0, place="there"), ["g"]), 10)
        self.assertEqual(greatest_with(program, wish(0, place=0), ["g"]), 50)

    def test_other_variables(self):
        program = of(*loop(up("y"), guard("g", "y"), ("set", "x", (("y", 2),)), HERE), variables="xy")
        self.assertEqual(greatest_with(program, wish(0), ["g"]), 12)
        program = of(*loop(up("x"), guard("g", "y"), HERE), variables="xy")
        self.assertEqual(greatest_with(program, wish(0), ["g"]), "endless")
        program = of(*loop(("set", "x", (("x", 1), ("y", 5))), up("y"), guard("g", "y"), guard("h", "x", 3), HERE),
                     variables="xy")
        self.assertEqual(greatest_with(program, wish(0), ["g", "h"]), 3)
        self.assertEqual(greatest_with(program, wish(0), ["h"]), 3)
        self.assertEqual(greatest_with(program, wish(0), ["g"]), "endless")
        self.assertEqual(greatest_with(program, wish(0, "y"), ["g"]), 10)

    def test_procedure_called_twice(self):
        bodies = [("f", (up(gain=4), guard("g", most=10), HERE))]
        program = of(("call", "f"), up(gain=100), ("call", "f"), procedures=bodies)
        self.assertEqual(greatest_with(program, wish(0), ["g"]), 10)
        self.assertEqual(greatest_with(program, wish(0), []), 108)
        self.assertEqual([greatest_with(program, (at, "x", None, 0), ["g"]) for at in range(8)],
                         [0, 0, 4, 4, 4, 4, 104, 104])

    def test_thirty_digits(self):
        for most in [FAR, FAR - 1, 12345678901234567890]:
            for gain in [1, 2, 7, FAR]:
                program = of(*loop(up(gain=gain), guard("g", most=most), HERE))
                self.assertEqual(greatest_with(program, wish(0), ["g"]), most)
                program = of(*loop(up(gain=gain), HERE, guard("g", most=most)))
                self.assertEqual(greatest_with(program, wish(0), ["g"]), most + gain)
        inner = ("loop", "in", (up(), guard("g", most=FAR)))
        program = of(*loop(inner, ("set", "y", (("x", 0), ("y", 1))), ("set", "x", (("y", -FAR),)), guard("h", "y", FAR - 1),
                           HERE), variables="xy")
        self.assertEqual(greatest_with(program, wish(0), ["g", "h"]), 0)
        self.assertEqual(greatest_with(program, wish(0, "y"), ["g", "h"]), FAR - 1)
        self.assertEqual(greatest_with(program, wish(0, "y"), ["g"]), "endless")

    def test_chains_of_guards(self):
        body, names = (), []
        for at in range(8):
            names.append("g" + "abcdefgh"[at])
            body = (("loop", "l" + "abcdefgh"[at], (up(gain=at + 1), guard(names[-1], most=10 ** (at * 3 + 5)))),) + body
        program = of(*body, HERE)
        self.assertEqual(greatest_with(program, wish(0), names), 10 ** 26)
        self.assertEqual(greatest_with(program, wish(0), names[:4]), "endless")


class Least(Case):

    def choices(self, program):
        costs = {}
        waiting = [program.main, *[body for _, body in program.procedures]]
        while waiting:
            for one in waiting.pop():
                if one[0] == "guard":
                    costs[one[1]] = one[4]
                if one[0] in ("loop", "either"):
                    waiting += [part for part in one[1:] if isinstance(part, tuple)]
        subsets = [names for many in range(len(costs) + 1) for names in itertools.combinations(sorted(costs), many)]
        return sorted((sum(costs[name] for name in names), names) for names in subsets)

    def test_against_every_choice(self):
        seen = {None: 0, 0: 0, 1: 0, 2: 0}
        for seed, program in guarded(range(42000, 42400)):
            chance = random.Random(seed)
            condition = (chance.choice(["here", Graph(program).end]), chance.choice(program.names), None,
                         chance.choice([-3, 0, 2, 5, 9, 25]))
            rows = self.choices(program)
            enough = [row for row in rows if self.holds(plain_greatest(program, condition, row[1]), condition)]
            found = least_guards(program, condition)
            self.assertEqual(found, enough[0] if enough else None, seed)
            self.assertEqual(cheaper(program, condition),
                             sorted(names for cost, names in rows if found is None or cost < found[0]))
            seen[found and min(2, len(found[1]))] += 1
        self.assertGreater(min(seen.values()), 0)

    def holds(self, value, condition):
        return value != "endless" and value <= condition[3]

    def test_costs_alike(self):
        program = of(*loop(up(), guard("h", cost=3), guard("gb", cost=3), guard("a", most=30, cost=1),
                           guard("b", most=5, cost=3), HERE))
        self.assertEqual(least_guards(program, wish(10)), (3, ("b",)))
        self.assertEqual(least_guards(program, wish(30)), (1, ("a",)))
        self.assertEqual(least_guards(program, wish(4)), None)
        self.assertEqual(cheaper(program, wish(10)), [(), ("a",)])
        self.assertEqual(cheaper(program, wish(30)), [()])
        self.assertEqual(len(cheaper(program, wish(4))), 16)
        self.assertEqual(cheaper(program, wish(4)), sorted(cheaper(program, wish(4))))

    def test_two_for_the_price_of_one(self):
        body = (("loop", "la", (up(), guard("b", cost=2))), ("loop", "lb", (up("y"), guard("d", "y", cost=2))),
                ("set", "x", (("x", 0), ("y", 0))), guard("a", cost=4), HERE)
        program = of(*body, variables="xy")
        # ("a",) is ahead of ("b", "d"), at the same cost.
        self.assertEqual(least_guards(program, wish(10)), (4, ("a",)))
        self.assertEqual(cheaper(program, wish(10)), [(), ("b",), ("d",)])

    def test_empty(self):
        program = of(HERE, guard("g"))
        self.assertEqual(least_guards(program, wish(0)), (0, ()))
        self.assertEqual(cheaper(program, wish(0)), [])
        self.assertEqual(least_guards(of(HERE), wish(0)), (0, ()))
        self.assertIsNone(least_guards(of(HERE), wish(-1)))
        self.assertEqual(cheaper(of(HERE), wish(-1)), [()])

    def test_guard_that_nobody_comes_to(self):
        program = of(*loop(up(), guard("g", cost=5), HERE), procedures=[("f", (guard("h", cost=1),))])
        self.assertEqual(least_guards(program, wish(10)), (5, ("g",)))
        self.assertEqual(cheaper(program, wish(10)), [(), ("h",)])

    def test_eight_and_nine(self):
        names = ["g" + letter for letter in "abcdefghi"]
        for many in [8, 9]:
            body = loop(up(), *[guard(name, most=100 - at, cost=at + 1) for at, name in enumerate(names[:many])], HERE)
            program = of(*body)
            if many == 8:
                self.assertEqual(least_guards(program, wish(96)), (5, ("ge",)))
                self.assertEqual(greatest_with(program, wish(0), names[:8]), 93)
                self.assertEqual(len(cheaper(program, wish(0))), 256)
                self.assertEqual(cheaper(program, wish(96)),
                                 sorted([(), ("ga",), ("gb",), ("gc",), ("gd",), ("ga", "gb"), ("ga", "gc")]))
            else:
                for call, rest in CALLS:
                    self.assertEqual(self.failing(TooMany, call, program, wish(0), *rest).limit, 8)


class Papers(Case):

    def test_broken_by(self):
        seen, longest = {True: 0, False: 0}, 0
        for seed, program in guarded(range(43000, 43500)):
            chance = random.Random(seed)
            names = [name for name in program.guards if chance.random() < 0.7]
            condition = (chance.choice(["here", Graph(program).end, 1]), chance.choice(program.names), None,
                         chance.choice([-3, 0, 5, 9, 30, 300, FAR]))
            rules = broken_by(program, condition, names)
            enough = is_enough(program, condition, names)
            self.assertIs(rules is None, enough, seed)
            seen[enough] += 1
            if rules is None:
                continue
            longest = max(longest, len(rules))
            self.assertIs(type(rules), list)
            self.is_true(is_broken_by(program, condition, names, rules))
            self.assertGreater(self.looked(program, condition, names, rules), condition[3])
            if steps_told(rules) is not None:
                last = followed(program, condition, names, rules)
                self.assertGreater(last.numbers[program.names.index(condition[1])], condition[3])
            greatest = greatest_with(program, condition, names)
            if greatest != "endless":
                self.is_false(is_broken_by(program, (*condition[:3], greatest), names, rules))
            self.bent(program, condition, names, rules)
        self.assertGreater(min(seen.values()), 80)
        self.assertTrue(100 < longest < 1000)

    def looked(self, program, condition, names, rules):
        """The value behind a short run, rule by rule: each is told by the pairs of a bound and the sum behind it."""
        steps = {(source, edge, target): weight
                 for source, edge, target, weight, _ in Terms(program, condition, STEPS).steps()}
        edges, told = Graph(program).edges, []
        for word, first, second in rules:
            if word == "both":
                self.assertEqual(told[first][1], told[second][0])
                total, cap = told[first][2] + told[second][2], told[second][3]
                if told[first][3] is not None:
                    cap = min([one for one in (cap, told[first][3] + told[second][2]) if one is not None])
                told.append((told[first][0], told[second][1], total, cap))
                continue
            node, total, cap = first, 0, None
            for edge, plus, minus in second:
                target = (edges[edge][1], plus, minus)
                weight = steps[node, edge, target]
                total, cap, node = total + weight, None if cap is None else cap + weight, target
                action = edges[edge][2]
                if action is not None and action[0] == "guard" and action[1] in names and action[2] == plus:
                    cap = action[3] if cap is None else min(cap, action[3])
            told.append((first, node, total, cap))
        terms = Terms(program, condition, STEPS)
        first, last, total, cap = told[-1]
        self.assertIn(last, terms.ends())
        value = terms.begins()[first] + total
        return value if cap is None else min(value, cap)

    def bent(self, program, condition, names, rules):
        for other in [rules + [None], rules + [("walk", (0, None, None), None)], tuple(rules), rules + [("both", 0, len(rules))],
                      rules + [("both", -1, 0)], [("walk",)] + rules, [*rules[:-1], (*rules[-1], None)],
                      rules + [("walk", (0, condition[1], condition[1]), ())], []]:
            self.is_false(is_broken_by(program, condition, names, other))

    def test_one_choice_behind_another(self):
        for seed, program in guarded(range(47000, 47040), points=25):
            chance, text = random.Random(seed), format_program(program)
            condition = ("here", chance.choice(program.names), None, chance.choice([0, 3, 10]))
            choices = [[name for name in program.guards if chance.random() < 0.5] for _ in range(6)]
            alone = [(is_enough(parse_program(text), condition, names), broken_by(parse_program(text), condition, names),
                      greatest_with(parse_program(text), condition, names),
                      capped_heights(parse_program(text), condition, names)) for names in choices]
            for _ in range(2):
                for at in chance.sample(range(6), 6):
                    names = choices[at]
                    self.assertEqual((is_enough(program, condition, names), broken_by(program, condition, names),
                                      greatest_with(program, condition, names), capped_heights(program, condition, names)),
                                     alone[at])
                self.assertEqual(least_guards(program, condition), least_guards(parse_program(text), condition))

    def test_rules_used_several_times(self):
        program = of(*loop(up(), guard("g", most=100), HERE))
        ring = tuple((edge, "x", None) for edge in (1, 2, 3, 4, 5))
        self.assertEqual(Graph(program).edges[5], (5, 1, None))
        rules = [("walk", (0, "x", None), ((0, "x", None),)), ("walk", (1, "x", None), ring)]
        for _ in range(5):
            rules.append(("both", len(rules) - 1, len(rules) - 1))
        # Thirty-two rounds, then thirty-two more of them, and so on, up to the bound and no further.
        head = (1, "x", None, 31)
        self.is_true(is_broken_by(program, head, ["g"], rules + [("both", 0, 6)]))
        self.is_false(is_broken_by(program, (1, "x", None, 32), ["g"], rules + [("both", 0, 6)]))
        twice = rules + [("both", 6, 6), ("both", 7, 7), ("both", 0, 8)]
        self.is_true(is_broken_by(program, (1, "x", None, 99), ["g"], twice))
        self.is_false(is_broken_by(program, (1, "x", None, 100), ["g"], twice))
        self.is_true(is_broken_by(program, (1, "x", None, 127), [], twice))
        self.is_false(is_broken_by(program, (1, "x", None, 128), [], twice))

    def test_great_numbers_of_rounds(self):
        for most in [10 ** 10, 10 ** 29, FAR]:
            program = of(*loop(up(gain=7), guard("g", most=most), ("set", "y", (("x", 0),)), guard("h", "y", most - 1),
                               HERE), variables="xy")
            for condition, names in [(wish(most - 1), ["g"]), (wish(most - 2, "y"), ["g", "h"]), (wish(FAR), []),
                                     (wish(most - 2, "y"), ["h"])]:
                rules = broken_by(program, condition, names)
                self.is_true(is_broken_by(program, condition, names, rules))
                self.assertLess(len(rules), 250)
            for condition, names in [(wish(most), ["g"]), (wish(most - 1, "y"), ["g", "h"])]:
                self.assertIsNone(broken_by(program, condition, names))
                self.is_false(is_broken_by(program, condition, names, rules))

    def test_steps_of_others(self):
        program = of(*loop(up(), guard("g", most=5), HERE))
        other = of(*loop(up(), HERE))
        rules = broken_by(other, wish(5), [])
        self.is_false(is_broken_by(program, wish(5), ["g"], rules))
        rules = broken_by(program, wish(5), [])
        self.is_true(is_broken_by(program, wish(5), (), rules))
        self.is_false(is_broken_by(program, wish(5), ["g"], rules))
        self.assertEqual(broken_by(program, (0, "x", None, -1), ["g"]), [("walk", (0, "x", None), ())])

    def test_capped_heights(self):
        seen = {"endless": 0, int: 0}
        for seed, program in guarded(range(44000, 44400)):
            chance = random.Random(seed)
            names = [name for name in program.guards if chance.random() < 0.8]
            condition = (chance.choice(["here", Graph(program).end]), chance.choice(program.names), None,
                         chance.choice([0, 5, 9, 30, FAR]))
            found = capped_heights(program, condition, names)
            self.assertIs(found is None, not is_enough(program, condition, names))
            if found is None:
                continue
            self.assertEqual(found, plain_values(program, condition, names))
            self.is_true(is_capped_heights(program, condition, names, found))
            for node, height in found.items():
                seen[height if height == "endless" else type(height)] += 1
                less = 10 ** 50 if height == "endless" else height - 1
                self.is_false(is_capped_heights(program, condition, names, {**found, node: less}))
                self.is_false(is_capped_heights(program, condition, names,
                                                {other: found[other] for other in found if other != node}))
                for more in ["endless", 10 ** 50, None, "5", True, 1.0, [5], Touchy(), Agreeing()]:
                    self.assertIs(is_capped_heights(program, condition, names, {**found, node: more}),
                                  self.right(program, condition, names, {**found, node: more}))
        self.assertGreater(min(seen.values()), 20)

    def right(self, program, condition, names, heights):
        """Whether heights are such as the document tells."""
        def at_least(bound, least):
            return bound == "endless" or (least != "endless" and bound >= least)

        for value in heights.values():
            if type(value) is not int and not (type(value) is str and value == "endless"):
                return False
        terms = Terms(program, condition, STEPS)
        for source, target, weight, cap in capped_steps(program, condition, names):
            least = heights[source] if heights[source] == "endless" else heights[source] + weight
            if cap is not None and (least == "endless" or least > cap):
                least = cap
            if not at_least(heights[target], least):
                return False
        return (all(at_least(heights[node], start) for node, start in terms.begins().items())
                and all(heights[node] != "endless" and heights[node] <= condition[3] for node in terms.ends()))

    def test_greater_heights(self):
        program = of(*loop(up(), guard("g", most=5), HERE))
        found = capped_heights(program, wish(9), ["g"])
        self.assertEqual(found, {(0, "x", None): 0, (1, "x", None): 5, (2, "x", None): 5, (3, "x", None): 6,
                                 (4, "x", None): 5, (5, "x", None): 5})
        self.is_true(is_capped_heights(program, wish(9), ["g"], {**found, (3, "x", None): "endless"}))
        self.is_true(is_capped_heights(program, wish(9), ["g"], {**found, (3, "x", None): 10 ** 99}))
        self.is_true(is_capped_heights(program, wish(9), ["g"], {node: 9 for node in found} | {(3, "x", None): 10}))
        self.is_false(is_capped_heights(program, wish(9), ["g"], {node: 10 for node in found}))
        self.is_false(is_capped_heights(program, wish(9), [], found))
        self.is_false(is_capped_heights(program, wish(4), ["g"], found))
        self.is_false(is_capped_heights(program, wish(9), ["g"], {**found, (6, "x", None): 9}))
        self.is_false(is_capped_heights(program, wish(9), ["g"], {**found, (0, None, None): 0}))

    def test_any_object(self):
        program = of(*loop(up(), guard("g", most=5), HERE))
        for value in odd_objects() + [0, [None], [[]], [("walk",)], [("walk", None, None)], [("both", 0, 0)], {None: 0}, [Touchy()],
                                      [("walk", Touchy(), ())], [(Touchy(), 0, 0)], [("walk", (0, "x", None), Touchy())],
                                      [("walk", (0, "x", None), (Touchy(),))], [("both", Touchy(), 0)], {Agreeing(): 0}]:
            self.is_false(is_broken_by(program, wish(3), ["g"], value))
            self.is_false(is_capped_heights(program, wish(9), ["g"], value))

    def test_new(self):
        program = of(*loop(up(), guard("g", most=5), HERE))
        capped_heights(program, wish(9), ["g"]).clear()
        self.assertEqual(len(capped_heights(program, wish(9), ["g"])), 6)
        broken_by(program, wish(3), ["g"]).clear()
        self.assertGreater(len(broken_by(program, wish(3), ["g"])), 0)
        cheaper(program, wish(-1)).clear()
        self.assertEqual(len(cheaper(program, wish(-1))), 2)


CALLS = [(greatest_with, ((),)), (is_enough, ((),)), (least_guards, ()), (broken_by, ((),)), (is_broken_by, ((), None)),
         (capped_heights, ((),)), (is_capped_heights, ((), None)), (cheaper, ())]


class Errors(Case):

    def test_programs(self):
        named = Program([("x", 0, 0)], (), parameters=[("p", 0, 1)])
        long = Program([("x", 0, 0)], (("call", "f"),) * 40, procedures=[("f", (HERE,) * 40)])
        for call, rest in CALLS:
            for value in odd_objects() + [named]:
                self.fails(InvalidProgram, value, call, value, None, *[None for _ in rest])
            self.assertEqual(self.failing(TooMany, call, long, None, *[None for _ in rest]).limit, 150)

    def test_conditions(self):
        nine = of(*[guard("g" + letter) for letter in "abcdefghi"], HERE, variables="xy")
        program = of(guard("g"), HERE, variables="xy")
        for call, rest in CALLS:
            for value in odd_objects() + [("there", "x", None, 0), ("here", "x", "y", 0), ("here", None, "y", 0),
                                          ("here", None, None, 0), ("here", "z", None, 0), ["here", "x", None, 0]]:
                self.fails(InvalidCondition, value, call, program, value, *[None for _ in rest])
                self.fails(InvalidCondition, value, call, nine, value, *[None for _ in rest])
            self.assertEqual(self.failing(TooMany, call, nine, wish(0), *[None for _ in rest]).limit, 8)

    def test_names(self):
        program = of(guard("g"), guard("h"), HERE, *loop(up()), procedures=[("f", ())])
        for call, rest in CALLS:
            if rest == ():
                continue
            more = [None for _ in rest[1:]]
            wrong = [one for one in odd_objects() if type(one) not in (list, tuple)] + ["g", "gh", {"g": 1}, {"g"}, 0]
            wrong += [["g", "g"], ("g", "h", "g"), ["x"], ["go"], ["f"], ["here"], ["g", "main"], [["g"]], [{}], [("g",)]]
            wrong += [[name] for name in odd_names()]
            for names in wrong:
                self.fails(InvalidName, names, call, program, wish(0), names, *more)
            for names in [(), [], ["h"], ("h", "g"), ["g", "h"]]:
                call(program, wish(0), names, *more)

    def test_by_names(self):
        program, condition = of(*loop(up(), guard("g"), HERE)), wish(10)
        self.assertEqual(greatest_with(names=["g"], condition=condition, program=program), 10)
        self.is_true(is_enough(names=["g"], condition=condition, program=program))
        self.assertEqual(least_guards(condition=condition, program=program), (1, ("g",)))
        rules = broken_by(names=[], condition=condition, program=program)
        self.is_true(is_broken_by(value=rules, names=[], condition=condition, program=program))
        found = capped_heights(names=["g"], condition=condition, program=program)
        self.is_true(is_capped_heights(value=found, names=["g"], condition=condition, program=program))
        self.assertEqual(cheaper(condition=condition, program=program), [()])


if __name__ == "__main__":
    unittest.main()
