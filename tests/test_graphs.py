"""Points and edges."""

import unittest

from safeupto.errors import InvalidName, InvalidProgram, TooMany
from safeupto.graphs import Graph
from safeupto.programs import Program
from tests.helpers import Case, odd_names, odd_objects
from tests.making import made_up

X = [("x", 0, 4), ("y", 0, 1)]
SET = ("set", "x", (("x", 1),))
PLACE = ("place", "here")
READ = ("read", "r", "x")
INPUT = ("input", "x", 0, 1)
GUARD = ("guard", "cap", "x", 1, 1)


def graph(main, procedures=()):
    return Graph(Program(X, main, procedures=procedures, arrays=[("r", 3)]))


def call(name):
    return ("call", name)


def go(name):
    return ("round", name)


class PointsAndEdges(Case):

    def made(self, found, points, end, *edges):
        self.assertEqual((found.points, found.end, found.edges), (points, end, edges))

    def test_nothing(self):
        self.made(graph(()), 1, 0)

    def test_plain_statements(self):
        for statement in [SET, PLACE, READ, INPUT, GUARD]:
            self.made(graph((statement,)), 2, 1, (0, 1, statement))
        self.made(graph((SET, INPUT, PLACE, READ, GUARD)), 6, 5, (0, 1, SET), (1, 2, INPUT), (2, 3, PLACE),
                  (3, 4, READ), (4, 5, GUARD))

    def test_either(self):
        self.made(graph((("either", (SET,), (PLACE, INPUT)), READ)), 8, 7,
                  (0, 1, None), (1, 2, SET), (0, 3, None), (3, 4, PLACE), (4, 5, INPUT),
                  (2, 6, None), (5, 6, None), (6, 7, READ))

    def test_either_without_statements(self):
        self.made(graph((("either", (), ()),)), 4, 3, (0, 1, None), (0, 2, None), (1, 3, None), (2, 3, None))
        self.made(graph((("either", (SET,), ()),)), 5, 4,
                  (0, 1, None), (1, 2, SET), (0, 3, None), (2, 4, None), (3, 4, None))
        self.made(graph((("either", (), (SET,)),)), 5, 4,
                  (0, 1, None), (0, 2, None), (2, 3, SET), (1, 4, None), (3, 4, None))

    def test_loop(self):
        self.made(graph((SET, ("loop", "a", (PLACE, READ)), INPUT)), 8, 7,
                  (0, 1, SET), (1, 2, None), (2, 3, go("a")), (3, 4, PLACE), (4, 5, READ), (5, 2, None), (2, 6, None),
                  (6, 7, INPUT))

    def test_loop_without_statements(self):
        self.made(graph((("loop", "a", ()),)), 4, 3, (0, 1, None), (1, 2, go("a")), (2, 1, None), (1, 3, None))

    def test_loop_in_loop(self):
        self.made(graph((("loop", "a", (("loop", "b", (SET,)),)),)), 8, 7,
                  (0, 1, None), (1, 2, go("a")), (2, 3, None), (3, 4, go("b")), (4, 5, SET), (5, 3, None), (3, 6, None),
                  (6, 1, None), (1, 7, None))

    def test_either_in_either(self):
        self.made(graph((("either", (("either", (), ()),), (SET,)),)), 8, 7,
                  (0, 1, None), (1, 2, None), (1, 3, None), (2, 4, None), (3, 4, None),
                  (0, 5, None), (5, 6, SET), (4, 7, None), (6, 7, None))

    def test_call(self):
        self.made(graph((call("f"), SET), [("f", (PLACE,))]), 5, 4,
                  (0, 1, call("f")), (1, 2, PLACE), (2, 3, None), (3, 4, SET))
        self.made(graph((call("f"),), [("f", ())]), 3, 2, (0, 1, call("f")), (1, 2, None))

    def test_called_several_times(self):
        self.made(graph((call("f"), call("f")), [("f", (PLACE,))]), 7, 6,
                  (0, 1, call("f")), (1, 2, PLACE), (2, 3, None), (3, 4, call("f")), (4, 5, PLACE), (5, 6, None))

    def test_called_in_a_loop(self):
        self.made(graph((("loop", "a", (call("f"),)),), [("f", (PLACE,))]), 7, 6,
                  (0, 1, None), (1, 2, go("a")), (2, 3, call("f")), (3, 4, PLACE), (4, 5, None), (5, 1, None),
                  (1, 6, None))

    def test_called_in_either(self):
        self.made(graph((("either", (call("f"),), (call("f"),)),), [("f", ())]), 8, 7,
                  (0, 1, None), (1, 2, call("f")), (2, 3, None), (0, 4, None), (4, 5, call("f")), (5, 6, None),
                  (3, 7, None), (6, 7, None))

    def test_called_from_another_procedure(self):
        self.made(graph((call("f"), call("g")), [("f", (call("g"), SET)), ("g", (PLACE,))]), 10, 9,
                  (0, 1, call("f")), (1, 2, call("g")), (2, 3, PLACE), (3, 4, None), (4, 5, SET), (5, 6, None),
                  (6, 7, call("g")), (7, 8, PLACE), (8, 9, None))

    def test_loop_in_a_procedure_called_twice(self):
        found = graph((call("f"), call("f")), [("f", (("loop", "a", ()),))])
        self.made(found, 11, 10, (0, 1, call("f")), (1, 2, None), (2, 3, go("a")), (3, 2, None), (2, 4, None),
                  (4, 5, None), (5, 6, call("f")), (6, 7, None), (7, 8, go("a")), (8, 7, None), (7, 9, None),
                  (9, 10, None))

    def test_nobody_calls(self):
        self.made(graph((SET,), [("f", (PLACE,)), ("g", (INPUT,))]), 2, 1, (0, 1, SET))

    def test_example(self):
        count = Program([("x", 0, 0), ("y", 0, 5)], (("loop", "go", (("set", "x", (("x", 3),)), PLACE)),))
        self.made(Graph(count), 6, 5, (0, 1, None), (1, 2, go("go")), (2, 3, ("set", "x", (("x", 3),))), (3, 4, PLACE),
                  (4, 1, None), (1, 5, None))
        self.assertEqual(Graph(program=count).points_of("here"), [4])

    def test_kinds(self):
        found = graph((PLACE, SET))
        self.assertIs(type(found.edges), tuple)
        self.assertIs(type(found.points), int)
        self.assertIs(type(found.end), int)
        for name in ["points", "edges", "end"]:
            self.assertIsInstance(vars(Graph)[name], property)
            with self.assertRaises(AttributeError):
                setattr(found, name, 1)

    def test_every_point_is_come_to(self):
        for program in made_up(range(60), parameters=False, length=3):
            try:
                found = Graph(program)
            except TooMany:
                continue
            met = {0}
            for source, target, _ in found.edges:
                self.assertIn(source, met)
                self.assertLessEqual(target, len(met))
                met.add(target)
            self.assertEqual(met, set(range(found.points)))

    def test_methods_stand_in_the_class(self):
        self.assertIn("points_of", vars(Graph))
        self.assertEqual(Graph.__module__, "safeupto.graphs")


class PointsOf(Case):

    def test_points_of(self):
        found = graph((PLACE, ("either", (PLACE, ("place", "b")), (call("f"),)), call("f"), PLACE),
                      [("f", (("place", "b"), PLACE))])
        places = {name: [target for _, target, action in found.edges if action == ("place", name)]
                  for name in ["here", "b"]}
        self.assertEqual(found.edges[0], (0, 1, PLACE))
        for name, points in places.items():
            self.assertEqual(found.points_of(name), sorted(points))
            self.assertEqual(found.points_of(place=name), sorted(points))
        self.assertEqual([len(found.points_of("here")), len(found.points_of("b"))], [5, 3])

    def test_sorted_and_new(self):
        found = graph((("loop", "a", (PLACE, ("loop", "b", (PLACE,)))), PLACE))
        self.assertEqual(found.points_of("here"), [3, 6, 9])
        found.points_of("here").append(7)
        self.assertEqual(found.points_of("here"), [3, 6, 9])
        self.assertIs(type(found.points_of("here")), list)

    def test_wrong_names(self):
        program = Program(X, (("loop", "a", (GUARD, READ, SET)), call("g"), PLACE),
                          procedures=[("f", (("place", "lost"),)), ("g", ())], arrays=[("r", 1)])
        found = Graph(program)
        self.assertIn("lost", program.places)
        for place in odd_names() + ["lost", "x", "y", "a", "g", "f", "r", "cap", "main", "none", ("place", "here"), ["here"],
                                    1, 5, "her", "heree"]:
            self.fails(InvalidName, place, found.points_of, place)


class Limits(Case):

    def test_any_object(self):
        for program in odd_objects() + [(), "main", Program, 0]:
            self.fails(InvalidProgram, program, Graph, program)

    def test_parameters(self):
        for main in [(), (SET,), (("set", "x", (("x", "p"),)),), (call("f"),) * 40]:
            program = Program(X, main, parameters=[("p", 0, 1)], procedures=[("f", (PLACE,) * 40)])
            self.fails(InvalidProgram, program, Graph, program)
            if main != (call("f"),) * 40:
                self.assertLess(Graph(program.given({"p": 1})).points, 3)

    def sized(self, points):
        """A program with so many points, from 44 to 160."""
        body, rest = (), points - 1
        many = 0
        while rest >= 42 and many < 3:
            body, rest, many = body + (call("f"),), rest - 42, many + 1
        return Program(X, body + (PLACE,) * rest, procedures=[("f", (PLACE,) * 40)])

    def test_150_points(self):
        for points in [148, 149, 150]:
            self.assertEqual(Graph(self.sized(points)).points, points)
        for points in [151, 152, 160]:
            error = self.failing(TooMany, Graph, self.sized(points))
            self.assertEqual(error.limit, 150)
            self.assertIs(type(error.limit), int)

    def test_150_points_of_other_statements(self):
        # Ahead of the last statement there are 147 points.
        ahead = self.sized(147).main
        for last, more in [(SET, 1), (INPUT, 1), (GUARD, 1), (("either", (), ()), 3), (("loop", "a", ()), 3),
                           (call("g"), 2), (("loop", "a", (SET,)), 4), (("either", (), (SET,)), 4),
                           (("either", (SET,), ()), 4), (call("h"), 3)]:
            procedures = [("f", (PLACE,) * 40), ("g", ()), ("h", (SET,))]
            for fill in range(4):
                program = Program(X, ahead + (PLACE,) * fill + (last,), procedures=procedures)
                if 147 + fill + more > 150:
                    self.assertEqual(self.failing(TooMany, Graph, program).limit, 150)
                else:
                    self.assertEqual(Graph(program).points, 147 + fill + more)

    def test_millions_of_points(self):
        procedures = [(name, (call(later),) * 40) for name, later in ["ab", "bc", "cd"]] + [("d", (PLACE,) * 40)]
        self.assertEqual(self.failing(TooMany, Graph, Program(X, (call("a"),) * 40, procedures=procedures)).limit, 150)
        procedures = [(name, (("loop", name + "l", (call(later),) * 39),)) for name, later in ["ab", "bc", "cd"]]
        program = Program(X, (call("a"),) * 40, procedures=procedures + [("d", ())])
        self.assertEqual(self.failing(TooMany, Graph, program).limit, 150)

    def test_long_procedures_that_nobody_calls(self):
        procedures = [(name, (call(later),) * 40) for name, later in ["ab", "bc", "cd"]] + [("d", (PLACE,) * 40)]
        self.assertEqual(Graph(Program(X, (SET,), procedures=procedures)).points, 2)


if __name__ == "__main__":
    unittest.main()
