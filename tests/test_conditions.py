"""Conditions and sizes."""

import unittest

from safeupto.conditions import first_break, is_condition, is_size, size_of
from safeupto.errors import InvalidCondition, InvalidSize
from safeupto.graphs import Graph
from safeupto.machine import Machine, Run
from safeupto.programs import Program
from tests.helpers import Case, Touchy, odd_names, odd_numbers, odd_objects

FAR = 10 ** 30
MAIN = (("loop", "go", (("set", "x", (("x", 3),)), ("place", "here"), ("call", "f"))), ("guard", "g", "x", 5, 1),
        ("read", "r", "x"), ("place", "last"), ("input", "y", 0, 9), ("place", "here"))
PROCEDURES = [("f", (("call", "h"), ("loop", "in", (("place", "deep"),)))), ("h", (("input", "y", -1, 1),)),
              ("e", (("place", "lost"), ("loop", "no", ())))]
SINGLE = Program([("x", 0, 0), ("y", 0, 5)], MAIN, procedures=PROCEDURES, arrays=[("r", 9)], widths=[("x", 8)])
SEVERAL = SINGLE.replaced("e", (("place", "lost"), ("loop", "no", ()), ("set", "x", (("x", 0), ("y", 0)))))
POINTS = Graph(SINGLE).points


class Conditions(Case):

    def is_one(self, value, program=SINGLE):
        self.is_true(is_condition(program, value), value)

    def is_none(self, value, program=SINGLE):
        self.is_false(is_condition(program, value), None)

    def test_places(self):
        for place in ["here", "last", "deep"] + list(range(POINTS)):
            self.is_one((place, "x", None, 0))
        for place in odd_names() + ["lost", "x", "y", "go", "f", "r", "g", "main", "none", "her", -1, POINTS,
                                    POINTS + 1, FAR, (1,), "0", "1", 0.0, ("place", "here")]:
            if type(place) is not int or not 0 <= place < POINTS:
                self.is_none((place, "x", None, 0))

    def test_true_is_no_point(self):
        for place in [True, False]:
            self.is_none((place, "x", None, 0))

    def test_the_last_point(self):
        for many in range(1, 5):
            program = Program([("x", 0, 0)], (("place", "a"),) * many)
            self.is_one((many, "x", None, 0), program)
            self.is_none((many + 1, "x", None, 0), program)
            self.is_one((0, "x", None, 0), program)

    def test_plus_and_minus(self):
        for plus, minus in [("x", None), ("y", None), ("x", "y"), ("y", "x"), (None, "x"), (None, "y")]:
            self.is_one(("here", plus, minus, 7))
            self.is_one((3, plus, minus, 7))
        for plus, minus in [(None, None), ("x", "x"), ("y", "y"), ("z", None), (None, "z"), ("z", "x"), ("x", "z"),
                            ("here", None), ("f", None), ("r", None), ("go", "x"), ("main", None)]:
            self.is_none(("here", plus, minus, 7))
        for value in odd_names():
            if value is not None:
                self.is_none(("here", value, None, 7))
                self.is_none(("here", None, value, 7))
                self.is_none(("here", value, "x", 7))
                self.is_none(("here", "x", value, 7))

    def test_minus_needs_a_single_program(self):
        self.is_false(SEVERAL.is_single)
        for plus, minus in [("x", "y"), ("y", "x"), (None, "x"), (None, "y")]:
            self.is_none(("here", plus, minus, 7), SEVERAL)
        for plus in ["x", "y"]:
            self.is_one(("here", plus, None, 7), SEVERAL)

    def test_most(self):
        for most in [0, 1, -1, FAR, -FAR]:
            self.is_one(("here", "x", None, most))
        for most in odd_numbers():
            self.is_none(("here", "x", None, most))
            self.is_none(("here", "x", "y", most))

    def test_any_object(self):
        for value in odd_objects() + [0, "here", ("here",), ("here", "x"), ("here", "x", None), ["here", "x", None, 0],
                                      ("here", "x", None, 0, 0), ("here", "x", None, 0, None), {"here": 1},
                                      ("x", "here", None, 0), (0, "here", "x", None), "hxy0"]:
            self.is_none(value)

    def test_by_name(self):
        self.is_true(is_condition(program=SINGLE, value=("here", "x", None, 0)))

    def test_reads_and_guards_have_no_names_of_places(self):
        self.is_none(("g", "x", None, 0))
        self.is_none(("r", "x", None, 0))

    def test_defined_in_this_file(self):
        for one in [is_condition, is_size, size_of, first_break]:
            self.assertEqual(one.__module__, "safeupto.conditions")


class Sizes(Case):

    def test_sizes(self):
        for value in [("rounds", "go"), ("rounds", "in"), ("rounds", "no"), ("rounds", None), ("calls", "f"),
                      ("calls", "h"), ("calls", "e"), ("calls", None), ("steps", None)]:
            self.is_true(is_size(SINGLE, value), value)
            self.is_true(is_size(program=SINGLE, value=value), value)

    def test_wrong_names(self):
        for kind in ["rounds", "calls", "steps"]:
            for name in odd_names() + ["none", "x", "g", "r", "here", "main", "p"]:
                if name is not None:
                    self.is_false(is_size(SINGLE, (kind, name)))
        for value in [("rounds", "f"), ("calls", "go"), ("steps", "go"), ("steps", "f"), ("steps", "x")]:
            self.is_false(is_size(SINGLE, value), value)

    def test_wrong_kinds(self):
        for kind in odd_names() + ["round", "call", "step", "set", "go", "f", "Rounds", "rounds ", 0, None]:
            for name in [None, "go", "f"]:
                self.is_false(is_size(SINGLE, (kind, name)))

    def test_any_object(self):
        for value in odd_objects() + [0, "steps", "rounds", ("steps",), ("rounds",), ("rounds", "go", None),
                                      ("steps", None, None), ["steps", None], ["rounds", "go"], {"steps": None},
                                      (None, "steps"), ("go", "rounds"), ("rounds", ("go",)), "rg"]:
            self.is_false(is_size(SINGLE, value))

    def test_programs_without_loops_and_procedures(self):
        program = Program([("x", 0, 0)], ())
        for value in [("rounds", None), ("calls", None), ("steps", None)]:
            self.is_true(is_size(program, value))
        for value in [("rounds", "go"), ("calls", "f"), ("calls", "main")]:
            self.is_false(is_size(program, value))


class SizeOf(Case):

    def setUp(self):
        """A run with three rounds of go and, in each of them, two of the loop inside."""
        self.run = Run(Machine(SINGLE), (0, 2), [])
        self.left = {"go": 3, "in": 0}
        while self.run.last.point != self.run.machine.graph.end:
            index = self.next_edge()
            action = self.run.machine.graph.edges[index][2]
            self.run = self.run.more([(index, 1 if action is not None and action[0] == "input" else None)])

    def next_edge(self):
        """The edge of a round, as long as rounds are left, and the other one afterwards."""
        edges = self.run.machine.graph.edges
        choices = self.run.machine.edges_from(self.run.last)
        for index in choices:
            action = edges[index][2]
            if action is None or action[0] != "round":
                return index
            if self.left[action[1]] > 0:
                self.left[action[1]] -= 1
                self.left["in"] += 2 * (action[1] == "go")
                return index

    def test_each_size(self):
        self.assertEqual(self.run.last.point, self.run.machine.graph.end)
        expected = {("rounds", "go"): 3, ("rounds", "in"): 6, ("rounds", "no"): 0, ("rounds", None): 9,
                    ("calls", "f"): 3, ("calls", "h"): 3, ("calls", "e"): 0, ("calls", None): 6,
                    ("steps", None): 3 + 3 + 1}
        for size, count in expected.items():
            self.assertEqual(size_of(self.run, size), count, size)
            self.assertEqual(size_of(run=self.run, size=size), count, size)
            self.assertIs(type(size_of(self.run, size)), int)

    def test_without_choices(self):
        run = Run(Machine(SINGLE), (0, 0), [])
        for size in [("rounds", "go"), ("calls", "f"), ("steps", None), ("rounds", None), ("calls", None)]:
            self.assertEqual(size_of(run, size), 0)

    def test_what_steps_count(self):
        main = (("set", "x", (("x", 1),)), ("place", "a"), ("guard", "g", "x", 1, 1), ("read", "r", "x"),
                ("input", "x", 0, 0), ("either", (("set", "x", (("x", 1),)),), ()), ("call", "f"))
        machine = Machine(Program([("x", 0, 0)], main, arrays=[("r", 1)], procedures=[("f", ())]), guards=["g"])
        run = Run(machine, (0,), [])
        counts = []
        while run.last.point != machine.graph.end:
            index = machine.edges_from(run.last)[0]
            action = machine.graph.edges[index][2]
            run = run.more([(index, 0 if action is not None and action[0] == "input" else None)])
            counts.append(size_of(run, ("steps", None)))
        self.assertEqual(counts, [1, 1, 1, 1, 2, 2, 3, 3, 3, 3])

    def test_names_of_rounds_and_calls(self):
        main = (("loop", "a", ()), ("loop", "b", ()), ("call", "f"), ("call", "g"))
        machine = Machine(Program([("x", 0, 0)], main, procedures=[("f", ()), ("g", ())]))
        run = Run(machine, (0,), [(0, None), (1, None), (2, None), (1, None), (2, None), (3, None), (4, None),
                                  (5, None), (6, None), (7, None), (8, None), (9, None)])
        told = {size: size_of(run, size) for size in [("rounds", "a"), ("rounds", "b"), ("rounds", None),
                                                      ("calls", "f"), ("calls", "g"), ("calls", None)]}
        self.assertEqual(told, {("rounds", "a"): 2, ("rounds", "b"): 1, ("rounds", None): 3, ("calls", "f"): 1,
                                ("calls", "g"): 0, ("calls", None): 1})

    def test_wrong_sizes(self):
        for size in odd_objects() + [0, "steps", ("steps",), ("rounds", "none"), ("calls", "go"), ("steps", "go"),
                                     ["steps", None], ("round", None), (None, None), ("rounds", Touchy())]:
            self.fails(InvalidSize, size, size_of, self.run, size)


class FirstBreak(Case):

    def setUp(self):
        main = (("loop", "go", (("set", "x", (("x", 3),)), ("place", "here"), ("set", "y", (("y", -1),)),
                                ("place", "here"))), ("place", "last"))
        self.program = Program([("x", -4, 0), ("y", 0, 5)], main)
        self.machine = Machine(self.program)
        self.round = [(1, None), (2, None), (3, None), (4, None), (5, None), (6, None)]
        self.run = Run(self.machine, (-4, 5), [(0, None)] + self.round * 4)

    def naive(self, run, condition):
        place, plus, minus, most = condition
        names = run.machine.program.names
        points = [place] if isinstance(place, int) else run.machine.graph.points_of(place)
        for index, state in enumerate(run.states):
            numbers = dict(zip(names, state.numbers))
            numbers[None] = 0
            if state.point in points and numbers[plus] - numbers[minus] > most:
                return index
        return None

    def test_states(self):
        self.assertEqual([state.numbers for state in self.run.states[:9]],
                         [(-4, 5), (-4, 5), (-4, 5), (-1, 5), (-1, 5), (-1, 4), (-1, 4), (-1, 4), (-1, 4)])
        self.assertEqual(self.machine.graph.points_of("here"), [4, 6])

    def test_first_index(self):
        self.assertEqual(first_break(self.run, ("here", "x", None, -2)), 4)
        self.assertEqual(first_break(self.run, ("here", "x", None, -1)), 10)
        self.assertEqual(first_break(self.run, ("here", "x", None, 2)), 16)
        self.assertEqual(first_break(self.run, ("here", "x", None, 8)), None)
        self.assertEqual(first_break(self.run, ("here", "x", None, 7)), 22)
        self.assertEqual(first_break(self.run, ("here", "y", None, 5)), None)
        self.assertEqual(first_break(self.run, ("here", "y", None, 4)), 4)
        self.assertEqual(first_break(self.run, ("here", None, "y", -5)), 6)
        self.assertEqual(first_break(self.run, ("here", None, "y", -4)), 12)
        self.assertEqual(first_break(self.run, ("here", "x", "y", -6)), 6)
        self.assertEqual(first_break(self.run, ("here", "y", "x", 6)), None)
        self.assertEqual(first_break(self.run, ("here", "y", "x", 5)), 4)

    def test_the_first_state(self):
        self.assertEqual(first_break(self.run, (0, "y", None, 4)), 0)
        self.assertEqual(first_break(self.run, (0, "y", None, 5)), None)
        self.assertEqual(first_break(self.run, (1, "y", None, 4)), 1)
        self.assertEqual(first_break(Run(self.machine, (0, 0), []), (0, "x", None, -1)), 0)

    def test_a_place_that_is_not_come_to(self):
        self.assertEqual(first_break(self.run, ("last", "x", None, -FAR)), None)
        self.assertEqual(first_break(self.run.more([(7, None), (8, None)]), ("last", "x", None, -FAR)), 27)
        self.assertEqual(first_break(run=self.run, condition=(8, "x", None, -FAR)), None)

    def test_against_all_states(self):
        places = ["here", "last"] + list(range(self.machine.graph.points))
        for place in places:
            for plus, minus in [("x", None), ("y", None), (None, "x"), (None, "y"), ("x", "y"), ("y", "x")]:
                for most in range(-12, 13):
                    condition = (place, plus, minus, most)
                    self.assertEqual(first_break(self.run, condition), self.naive(self.run, condition), condition)

    def test_chosen_guards(self):
        program = Program([("x", 0, 9)], (("guard", "g", "x", 5, 1), ("place", "here")))
        choices = [(0, None), (1, None)]
        self.assertEqual(first_break(Run(Machine(program), (9,), choices), ("here", "x", None, 5)), 2)
        self.assertEqual(first_break(Run(Machine(program, guards=["g"]), (9,), choices), ("here", "x", None, 5)), None)
        self.assertEqual(first_break(Run(Machine(program, guards=["g"]), (9,), choices), ("here", "x", None, 4)), 2)

    def test_wrong_conditions(self):
        run = Run(Machine(SEVERAL), (0, 0), [])
        for condition in odd_objects() + [("lost", "x", None, 0), ("here", "x", "y", 0), ("here", "x", "x", 0),
                                          ("here", None, None, 0), (True, "x", None, 0), (POINTS, "x", None, 0),
                                          ("here", "x", None, FAR + 1), ["here", "x", None, 0], ("here", "x", None)]:
            self.fails(InvalidCondition, condition, first_break, run, condition)


if __name__ == "__main__":
    unittest.main()
