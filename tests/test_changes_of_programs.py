"""body_of, replaced, given and mirrored of Program."""

import unittest

from safeupto.errors import InvalidBody, InvalidName, InvalidNumber, InvalidProgram
from safeupto.programs import Program
from tests.helpers import Case, Touchy, odd_names, odd_numbers, odd_objects
from tests.test_programs import full

FAR = 10 ** 30
X = [("x", 0, 4)]


class BodyOf(Case):

    def test_bodies(self):
        main, first, second = (("place", "a"),), (("call", "g"),), (("place", "b"),)
        program = Program(X, main, procedures=[("f", first), ("g", second)])
        self.assertIs(program.body_of("main"), main)
        self.assertIs(program.body_of("f"), first)
        self.assertIs(program.body_of(name="g"), second)

    def test_wrong_names(self):
        program = full()
        for name in odd_names() + ["x", "p", "rows", "go", "here", "g", "none", "mains", "proc"]:
            self.fails(InvalidName, name, program.body_of, name)


class Replaced(Case):

    def setUp(self):
        self.program = full()

    def test_main(self):
        body = (("place", "other"),)
        found = self.program.replaced("main", body)
        self.assertEqual(found, Program(self.program.variables, body, procedures=self.program.procedures,
                                        parameters=self.program.parameters, arrays=self.program.arrays,
                                        widths=self.program.widths))
        self.assertEqual(self.program, full())
        self.assertEqual(found.places, ("other", "here", "last"))

    def test_procedures(self):
        body = (("loop", "new", ()),)
        for at, name in enumerate(["f", "h"]):
            found = self.program.replaced(name=name, body=body)
            self.assertIsInstance(found, Program)
            self.assertEqual(found.body_of(name), body)
            self.assertEqual(found.main, self.program.main)
            self.assertEqual(found.procedures[1 - at], self.program.procedures[1 - at])
            self.assertEqual([one for one, _ in found.procedures], ["f", "h"])
            self.assertEqual((found.variables, found.parameters, found.arrays, found.widths),
                             (self.program.variables, self.program.parameters, self.program.arrays,
                              self.program.widths))

    def test_the_same(self):
        for name in ["main", "f", "h"]:
            self.assertEqual(self.program.replaced(name, self.program.body_of(name)), self.program)

    def test_wrong_names(self):
        for name in odd_names() + ["x", "p", "rows", "go", "none"]:
            self.fails(InvalidName, name, self.program.replaced, name, ())
            self.fails(InvalidName, name, self.program.replaced, name, None)
            self.fails(InvalidName, name, self.program.replaced, name, (("call", "none"),))

    def test_wrong_bodies(self):
        for body in odd_objects() + [[("place", "a")], (("place", "a"),) * 41, (("place",),), "main", 0]:
            if not isinstance(body, tuple) or len(body) > 0:
                for name in ["main", "f", "h"]:
                    self.fails(InvalidBody, body, self.program.replaced, name, body)

    def test_wrong_names_in_bodies(self):
        for body in [(("call", "none"),), (("place", "x"),), (("set", "z", ((None, 0),)),)]:
            for name in ["main", "f", "h"]:
                self.fails(InvalidProgram, body, self.program.replaced, name, body)
        body = (("call", "f"),)
        self.assertEqual(self.program.replaced("main", body).main, body)
        self.fails(InvalidProgram, body, self.program.replaced, "f", body)
        self.fails(InvalidProgram, body, self.program.replaced, "h", body)

    def test_another_body_becomes_wrong(self):
        later = (("loop", "a", ()),)
        program = Program(X, (), procedures=[("f", later), ("g", ())])
        self.fails(InvalidProgram, later, program.replaced, "main", (("loop", "a", ()),))
        self.fails(InvalidProgram, later, program.replaced, "main", (("place", "a"),))
        body = (("place", "a"),)
        self.fails(InvalidProgram, body, program.replaced, "g", body)


class Given(Case):

    def setUp(self):
        body = (("set", "x", (("x", "p"), (None, "q"), ("y", 2))),
                ("loop", "go", (("set", "y", ((None, "p"),)), ("input", "y", 0, 3))),
                ("either", (("set", "y", (("x", "q"),)),), (("read", "r", "x"), ("guard", "g", "x", 1, 2))),
                ("call", "f"), ("place", "here"))
        self.program = Program([("x", 0, 4), ("y", 1, 2)], body, procedures=[("f", (("set", "x", ((None, "q"),)),))],
                               parameters=[("p", 1, 5), ("q", -FAR, FAR)], arrays=[("r", 3)], widths=[("x", 9)])

    def test_numbers_in_their_places(self):
        found = self.program.given({"p": 5, "q": -FAR})
        body = (("set", "x", (("x", 5), (None, -FAR), ("y", 2))),
                ("loop", "go", (("set", "y", ((None, 5),)), ("input", "y", 0, 3))),
                ("either", (("set", "y", (("x", -FAR),)),), (("read", "r", "x"), ("guard", "g", "x", 1, 2))),
                ("call", "f"), ("place", "here"))
        self.assertEqual(found, Program([("x", 0, 4), ("y", 1, 2)], body,
                                        procedures=[("f", (("set", "x", ((None, -FAR),)),))],
                                        arrays=[("r", 3)], widths=[("x", 9)]))
        self.assertEqual(found.parameters, ())

    def test_ends_of_ranges(self):
        for p, q in [(1, FAR), (5, -FAR), (3, 0)]:
            self.assertEqual(self.program.given(values={"q": q, "p": p}).procedures[0][1],
                             (("set", "x", ((None, q),)),))
        for p, q in [(0, 0), (6, 0), (1, FAR + 1), (1, -FAR - 1), (True, 0), (1, False), (1.0, 0), (None, 0)]:
            values = {"p": p, "q": q}
            self.fails(InvalidNumber, values, self.program.given, values)

    def test_exactly_the_names(self):
        for values in [{}, {"p": 1}, {"q": 1}, {"p": 1, "q": 1, "r": 1}, {"p": 1, "r": 1}, {"p": 1, "x": 1},
                       {"P": 1, "q": 1}, {1: 1, "q": 1}, {None: 1, "q": 1}, {"p": 1, "q": 1, None: 1},
                       {"p": 1, ("q",): 1}]:
            self.fails(InvalidNumber, values, self.program.given, values)

    def test_any_object(self):
        for values in odd_objects() + [[("p", 1), ("q", 1)], (1, 1), ["p", "q"], "pq", {"p", "q"}]:
            self.fails(InvalidNumber, values, self.program.given, values)
        for number in odd_numbers():
            for values in [{"p": number, "q": 0}, {"p": 1, "q": number}]:
                self.fails(InvalidNumber, values, self.program.given, values)

    def test_odd_keys(self):
        class Key:
            def __init__(self, name):
                self.name = name

            def __hash__(self):
                return hash(self.name)

            def __eq__(self, other):
                raise RuntimeError("compared")

        values = {Key("p"): 1, Key("q"): 1}
        self.fails(InvalidNumber, values, self.program.given, values)

    def test_without_parameters(self):
        program = Program(X, (("place", "a"),))
        self.assertEqual(program.given({}), program)
        for values in [{"p": 1}, None, [], (), set(), 0, Touchy()]:
            self.fails(InvalidNumber, values, program.given, values)

    def test_a_parameter_that_is_not_used(self):
        program = Program(X, (("place", "a"),), parameters=[("p", 0, 0)])
        self.assertEqual(program.given({"p": 0}), Program(X, (("place", "a"),)))
        values = {}
        self.fails(InvalidNumber, values, program.given, values)

    def test_nothing_changes(self):
        values = {"p": 2, "q": 7}
        found = self.program.given(values)
        values["p"] = 3
        self.assertEqual(found.main[0], ("set", "x", (("x", 2), (None, 7), ("y", 2))))
        self.assertEqual(len(self.program.parameters), 2)
        self.assertEqual(values, {"p": 3, "q": 7})

    def test_zero(self):
        found = self.program.given({"p": 1, "q": 0})
        self.assertEqual(found.main[0], ("set", "x", (("x", 1), (None, 0), ("y", 2))))


class Mirrored(Case):

    def test_everything(self):
        body = (("set", "x", (("y", 3),)), ("set", "y", ((None, -4),)), ("set", "x", (("x", 0),)),
                ("input", "x", -1, 7), ("guard", "g", "x", 5, 1), ("read", "r", "x"), ("place", "here"),
                ("loop", "go", (("guard", "h", "y", 5, 1), ("set", "x", (("x", 1),)), ("call", "f"))),
                ("either", (("read", "r", "y"),), (("input", "y", 2, 3), ("guard", "k", "y", 0, 9))))
        program = Program([("x", -2, 9), ("y", 4, 4)], body, procedures=[
            ("f", (("set", "y", (("x", -FAR),)), ("read", "r", "x"))), ("e", (("guard", "l", "x", 0, 1),))],
            arrays=[("r", 5)], widths=[("x", 8)])
        other = (("set", "x", (("y", -3),)), ("set", "y", ((None, 4),)), ("set", "x", (("x", 0),)),
                 ("input", "x", -7, 1), ("place", "here"), ("loop", "go", (("set", "x", (("x", -1),)), ("call", "f"))),
                 ("either", (), (("input", "y", -3, -2),)))
        expected = Program([("x", -9, 2), ("y", -4, -4)], other,
                           procedures=[("f", (("set", "y", (("x", FAR),)),)), ("e", ())])
        self.assertEqual(program.mirrored(), expected)
        self.assertEqual((expected.arrays, expected.widths, expected.guards), ((), (), ()))

    def test_twice(self):
        program = Program([("x", -2, 9)], (("set", "x", (("x", 3),)), ("loop", "a", (("input", "x", -FAR, FAR),))))
        self.assertEqual(program.mirrored().mirrored(), program)

    def test_parameters(self):
        for body in [(), (("set", "x", (("x", "p"),)),), (("set", "x", (("x", "p"), (None, 1))),)]:
            program = Program(X, body, parameters=[("p", 0, 1)])
            self.fails(InvalidProgram, program, program.mirrored)

    def test_not_single(self):
        body = (("set", "x", (("x", 1), (None, 1))),)
        for program in [Program(X, body), Program(X, (), procedures=[("f", body)]),
                        Program(X, (("loop", "a", body),))]:
            self.fails(InvalidProgram, program, program.mirrored)

    def test_methods_stand_in_the_class(self):
        for name in ["body_of", "replaced", "given", "mirrored", "__init__", "__eq__"]:
            self.assertIn(name, vars(Program))
        self.assertEqual(Program.__module__, "safeupto.programs")


if __name__ == "__main__":
    unittest.main()
