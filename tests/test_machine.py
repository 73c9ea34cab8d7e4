"""States and the machine."""

import unittest

from safeupto.errors import InvalidChoice, InvalidName, InvalidProgram, InvalidState, TooMany
from safeupto.graphs import Graph
from safeupto.machine import Machine, State
from safeupto.programs import Program
from tests.helpers import Agreeing, Case, Touchy, odd_names, odd_objects

FAR = 10 ** 30
X = [("x", -1, 4), ("y", 3, 3)]
PLACE = ("place", "here")


def machine(*main, guards=(), procedures=(), variables=None):
    return Machine(Program(variables or X, main, procedures=procedures, arrays=[("r", 2)]), guards=guards)


class States(Case):

    def test_keeps_any_objects(self):
        for point in odd_objects() + [0, 7, "here", (1, 2)]:
            for numbers in [point, (1, 2), [1, 2], Touchy()]:
                for state in [State(point, numbers), State(point=point, numbers=numbers),
                              State(numbers=numbers, point=point)]:
                    self.assertIs(state.point, point)
                    self.assertIs(state.numbers, numbers)

    def test_not_copied(self):
        point, numbers = [1], [2]
        state = State(point, numbers)
        point.append(3)
        numbers.append(4)
        self.assertEqual((state.point, state.numbers), ([1, 3], [2, 4]))

    def test_equality(self):
        self.is_true(State(1, (2, 3)) == State(1, (2, 3)))
        self.is_false(State(1, (2, 3)) != State(1, (2, 3)))
        self.is_true(State([1], {"a": 2}) == State([1], {"a": 2}))
        self.is_true(State(None, None) == State(None, None))
        for other in [State(2, (2, 3)), State(1, (2, 4)), State(1, [2, 3]), State(1, (2,)), State((2, 3), 1),
                      State(None, (2, 3)), State(1, None)]:
            self.is_false(State(1, (2, 3)) == other)
            self.is_true(State(1, (2, 3)) != other)
            self.is_false(other == State(1, (2, 3)))

    def test_other_classes(self):
        for other in [(1, (2, 3)), [1, (2, 3)], None, 1, "x", object(), Agreeing(), Touchy()]:
            self.is_false(State(1, (2, 3)) == other)

    def test_properties(self):
        for name in ["point", "numbers"]:
            self.assertIsInstance(vars(State)[name], property)
            with self.assertRaises(AttributeError):
                setattr(State(1, 2), name, 3)


class Machines(Case):

    GUARDED = (("guard", "b", "x", 1, 1), ("guard", "a", "y", 1, 1), ("guard", "c", "x", 1, 1), PLACE,
               ("loop", "go", ()))

    def test_properties(self):
        program = Program(X, self.GUARDED)
        found = Machine(program)
        self.assertIs(found.program, program)
        self.assertIsInstance(found.graph, Graph)
        self.assertEqual(found.graph.edges, Graph(program).edges)
        self.assertEqual(found.guards, ())
        for name in ["program", "graph", "guards"]:
            self.assertIsInstance(vars(Machine)[name], property)
            with self.assertRaises(AttributeError):
                setattr(found, name, 1)

    def test_guards(self):
        program = Program(X, self.GUARDED, procedures=[("f", (("guard", "d", "x", 0, 1),))])
        for guards in [[], (), ["a"], ("c",), ["c", "a"], ("b", "a", "c"), ["c", "b", "a", "d"], ("d",)]:
            found = Machine(program, guards=guards)
            self.assertEqual(found.guards, tuple(sorted(guards)))
            self.assertIs(type(found.guards), tuple)

    def test_wrong_guards(self):
        program = Program(X, self.GUARDED)
        for guards in odd_objects() + [0, "a", "abc", {"a": 1}, {"a"}, "b", ["a", "a"], ("a", "b", "a"), ["d"], ["here"],
                                       ["go"], ["x"], ["a", "x"], ["main"], [["a"]], [("a",)], ("a", "none")]:
            if isinstance(guards, (list, tuple)) and len(guards) == 0:
                continue
            self.fails(InvalidName, guards, Machine, program, guards=guards)
        for name in odd_names():
            for guards in [[name], (name,), ["a", name], (name, "a")]:
                self.fails(InvalidName, guards, Machine, program, guards=guards)

    def test_errors_of_graph_first(self):
        for program in odd_objects() + [0, Program(X, (), parameters=[("p", 0, 0)])]:
            self.fails(InvalidProgram, program, Machine, program)
            self.fails(InvalidProgram, program, Machine, program, guards=None)
        long = Program(X, (("call", "f"),) * 4, procedures=[("f", (PLACE,) * 40)])
        self.assertEqual(self.failing(TooMany, Machine, long).limit, 150)
        self.assertEqual(self.failing(TooMany, Machine, long, guards=["none"]).limit, 150)

    def test_later_changes(self):
        guards = ["b", "a"]
        found = Machine(Program(X, self.GUARDED), guards=guards)
        self.assertEqual(guards, ["b", "a"])
        guards.append("none")
        self.assertEqual(found.guards, ("a", "b"))

    def test_by_name_only(self):
        self.assertRaises(TypeError, Machine, Program(X, ()), ())
        self.assertEqual(Machine(program=Program(X, ())).guards, ())

    def test_methods_stand_in_the_class(self):
        for name in ["start", "edges_from", "step"]:
            self.assertIn(name, vars(Machine))


class Start(Case):

    def test_in_the_ranges(self):
        for numbers in [(-1, 3), (4, 3), (0, 3)]:
            found = machine().start(numbers)
            self.assertEqual(found, State(0, numbers))
            self.assertIs(type(found), State)
        self.assertEqual(machine().start(numbers=(0, 3)), State(0, (0, 3)))

    def test_order_of_variables(self):
        found = machine(variables=[("b", 0, 0), ("a", 1, 1), ("c", FAR, FAR)])
        self.assertEqual(found.start((0, 1, FAR)).numbers, (0, 1, FAR))
        numbers = (1, 0, FAR)
        self.fails(InvalidState, numbers, found.start, numbers)

    def test_wrong_numbers(self):
        for numbers in [(-2, 3), (5, 3), (0, 2), (0, 4), (0,), (), (0, 3, 0), [0, 3], (0, "3"), (True, 3), (False, 3),
                        (0.0, 3), (None, 3), ("x", "y"), {"x": 0, "y": 3}, State(0, (0, 3)), (0, (3,)), 0, "03"]:
            self.fails(InvalidState, numbers, machine().start, numbers)
        for value in odd_objects():
            self.fails(InvalidState, value, machine().start, value)
            for numbers in [(value, 3), (0, value)]:
                self.fails(InvalidState, numbers, machine().start, numbers)


class Edges(Case):

    def test_edges_from(self):
        found = machine(("either", (("loop", "a", ()),), (PLACE,)), PLACE)
        by_point = {}
        for index, (source, _, _) in enumerate(found.graph.edges):
            by_point.setdefault(source, []).append(index)
        self.assertEqual(by_point[0], [0, 5])
        for point in range(found.graph.points):
            expected = by_point.get(point, [])
            self.assertEqual(found.edges_from(State(point, (10 ** 40, -7))), expected)
            self.assertEqual(found.edges_from(state=State(point, (0, 0))), expected)
        self.assertEqual(found.edges_from(State(found.graph.end, (0, 0))), [])

    def test_new_lists(self):
        found = machine(PLACE)
        found.edges_from(State(0, (0, 0))).append(5)
        self.assertEqual(found.edges_from(State(0, (0, 0))), [0])
        self.assertIs(type(found.edges_from(State(0, (0, 0)))), list)

    def wrong_states(self):
        wrong = odd_objects() + [0, (0, (0, 3)), [0, (0, 3)], {"point": 0}]
        wrong += [State(point, (0, 3)) for point in odd_objects() + [-1, 2, 3, "0", "here", (0,), 10 ** 40]]
        wrong += [State(0, numbers) for numbers in odd_objects() + [0, (0,), (0, 3, 0), [0, 3], "03", {0: 3, 1: 3}]]
        for value in odd_objects() + ["x", (0,), [0], "0"]:
            wrong += [State(0, (value, 3)), State(0, (0, value))]
        return wrong

    def test_wrong_states(self):
        found = machine(PLACE)
        self.assertEqual(found.edges_from(State(1, (0, 3))), [])
        for state in self.wrong_states():
            self.fails(InvalidState, state, found.edges_from, state)
            for choice in [(0, None), None, Touchy(), (5, 5)]:
                self.fails(InvalidState, state, found.step, state, choice)

    def test_wrong_choices(self):
        found = machine(PLACE, ("input", "x", 0, 5), ("either", (PLACE,), ()))
        for choice in odd_objects() + [0, 1, "0", (0,), (0, None, None), [0, None], (1, None), (1, 0), (2, None),
                                       (-1, None), (-2, 0), (4, None), (99, None), (0, 0), (0, 1), ("0", None),
                                       (False, None), ((0,), None), (0, False), (None, 0), (0.0, None), {0: None}]:
            self.fails(InvalidChoice, choice, found.step, State(0, (0, 3)), choice)
        for value in odd_objects():
            choice = (value, None)
            self.fails(InvalidChoice, choice, found.step, State(0, (0, 3)), choice)
            if value is not None:
                choice = (0, value)
                self.fails(InvalidChoice, choice, found.step, State(0, (0, 3)), choice)
        # Nothing goes on at the end.
        end = State(found.graph.end, (0, 3))
        for choice in [(0, None), (len(found.graph.edges) - 1, None), (-1, None)]:
            self.fails(InvalidChoice, choice, found.step, end, choice)


class Steps(Case):

    def steps(self, found, numbers, choice, behind):
        state = State(0, numbers)
        after = found.step(state, choice)
        self.assertEqual(after, State(found.graph.edges[choice[0]][1], behind))
        self.assertEqual((type(after), type(after.numbers)), (State, tuple))
        self.assertEqual((state.point, state.numbers), (0, numbers))

    def test_set(self):
        cases = {(("x", 5),): (15, 3), (("y", 5),): (8, 3), ((None, 5),): (5, 3), (("x", 0),): (10, 3),
                 (("y", -9),): (-6, 3), (("x", -FAR),): (10 - FAR, 3), ((None, -5),): (-5, 3)}
        for parts, behind in cases.items():
            self.steps(machine(("set", "x", parts)), (10, 3), (0, None), behind)
        self.steps(machine(("set", "y", (("x", 1),))), (10, 3), (0, None), (10, 11))

    def test_several_parts(self):
        parts = (("x", 1), ("y", 2), (None, 7))
        for numbers, behind in {(10, 3): (11, 3), (0, 9): (11, 9), (0, 0): (7, 0), (-5, -5): (7, -5), (6, 5): (7, 5),
                                (10 ** 35, 0): (10 ** 35 + 1, 0)}.items():
            self.steps(machine(("set", "x", parts)), numbers, (0, None), behind)
        self.steps(machine(("set", "y", (("x", 0), ("y", 0)))), (-8, -9), (0, None), (-8, -8))
        self.steps(machine(("set", "y", (("y", 0), ("x", 0)))), (-8, -9), (0, None), (-8, -8))

    def test_values_from_before(self):
        found = machine(("set", "x", (("x", 1), ("y", 1))), ("set", "y", (("x", 2), ("y", -1))))
        self.steps(found, (5, 9), (0, None), (10, 9))
        self.assertEqual(found.step(State(1, (10, 9)), (1, None)), State(2, (10, 12)))

    def test_input(self):
        found = machine(("input", "y", -2, 6))
        for number in [-2, -1, 0, 6]:
            self.steps(found, (1, 3), (0, number), (1, number))
        for number in [-3, 7, None, True, False, 0.0, "0", (0,), -FAR]:
            choice = (0, number)
            self.fails(InvalidChoice, choice, found.step, State(0, (1, 3)), choice)
        found = machine(("input", "x", -FAR, FAR))
        for number in [-FAR, FAR]:
            self.steps(found, (1, 3), (0, number), (number, 3))
        for number in [-FAR - 1, FAR + 1]:
            choice = (0, number)
            self.fails(InvalidChoice, choice, found.step, State(0, (1, 3)), choice)

    def test_input_of_one_number(self):
        found = machine(("input", "x", 0, 0))
        self.steps(found, (1, 3), (0, 0), (0, 3))
        for number in [None, 1, -1, False]:
            choice = (0, number)
            self.fails(InvalidChoice, choice, found.step, State(0, (1, 3)), choice)

    def test_guard(self):
        guards = (("guard", "g", "x", 5, 1), ("guard", "h", "y", -5, 1))
        for chosen in [(), ("g",), ("h",), ("h", "g")]:
            found = machine(*guards, guards=chosen)
            for number in [4, 5, 6, 10 ** 40, -10 ** 40]:
                capped = min(number, 5) if "g" in chosen else number
                self.steps(found, (number, 3), (0, None), (capped, 3))
                behind = min(number, -5) if "h" in chosen else number
                self.assertEqual(found.step(State(1, (3, number)), (1, None)), State(2, (3, behind)))

    def test_nothing_happens(self):
        for statement in [PLACE, ("read", "r", "x"), ("either", (), ()), ("loop", "a", ()), ("call", "f")]:
            found = machine(statement, procedures=[("f", ())])
            for numbers in [(0, 3), (10 ** 40, -9)]:
                for point in range(found.graph.points):
                    for index in found.edges_from(State(point, numbers)):
                        after = found.step(State(point, numbers), (index, None))
                        self.assertEqual(after, State(found.graph.edges[index][1], numbers))
                        choice = (index, 0)
                        self.fails(InvalidChoice, choice, found.step, State(point, numbers), choice)

    def test_number_where_none_is_due(self):
        for statement in [PLACE, ("set", "x", (("x", 1),)), ("guard", "g", "x", 1, 1)]:
            found = machine(statement, guards=["g"] if statement[0] == "guard" else [])
            for number in [0, 1, -1]:
                choice = (0, number)
                self.fails(InvalidChoice, choice, found.step, State(0, (0, 3)), choice)

    def test_by_name(self):
        found = machine(PLACE)
        self.assertEqual(found.step(state=State(0, (0, 3)), choice=(0, None)), State(1, (0, 3)))

    def test_values_of_any_size(self):
        found = machine(("set", "x", (("x", FAR),)))
        self.steps(found, (10 ** 60, 0), (0, None), (10 ** 60 + FAR, 0))

    def test_four_variables(self):
        variables = [("a", 0, 9), ("b", 0, 9), ("c", 0, 9), ("d", 0, 9)]
        for at, name in enumerate("abcd"):
            found = machine(("set", name, ((None, 7),)), variables=variables)
            self.steps(found, (1, 2, 3, 4), (0, None), (1, 2, 3, 4)[:at] + (7,) + (1, 2, 3, 4)[at + 1:])
            found = machine(("set", "a", ((name, 10),)), variables=variables)
            self.steps(found, (1, 2, 3, 4), (0, None), (11 + at, 2, 3, 4))


if __name__ == "__main__":
    unittest.main()
