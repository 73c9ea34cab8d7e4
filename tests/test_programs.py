"""Program: its arguments, its properties, its equality."""

import unittest

from safeupto.errors import InvalidProgram
from safeupto.programs import Program
from tests.helpers import Case, Touchy, odd_names, odd_numbers, odd_objects

FAR = 10 ** 30
X = [("x", 0, 4)]
BODY = (("set", "x", (("x", "p"), (None, 3))), ("call", "f"))


def full():
    """A program with everything in it."""
    main = (("set", "x", (("x", "p"), ("y", 3), (None, -2))), ("loop", "go", (("place", "here"), ("call", "f"))),
            ("either", (("place", "there"), ("guard", "g", "x", 9, 2)), (("read", "rows", "y"),)), ("call", "h"))
    first = (("input", "y", -1, 1), ("place", "here"), ("loop", "in", (("guard", "k", "y", 3, 99),)), ("call", "h"))
    second = (("set", "y", (("x", 0),)), ("place", "last"))
    return Program([("x", 0, 4), ("y", -5, 5)], main, procedures=[("f", first), ("h", second)],
                   parameters=[("p", 1, 2), ("q", 0, 0)], arrays=[("rows", 10)], widths=[("x", 4), ("y", 64)])


def named(many, start="a"):
    return [chr(ord(start) + at) for at in range(many)]


class Forms(Case):

    def wrong(self, value, **named_arguments):
        arguments = {"variables": X, "main": (), **named_arguments}
        self.fails(InvalidProgram, value, Program, **arguments)

    def test_numbers_of_rows(self):
        for many in range(7):
            rows = {"variables": [(name, 0, 1) for name in named(many)],
                    "procedures": [(name, ()) for name in named(many)],
                    "parameters": [(name, 0, 1) for name in named(many)],
                    "arrays": [(name, 1) for name in named(many)],
                    "widths": [(name, 2) for name in named(many)]}
            for kind, most in [("variables", 4), ("procedures", 4), ("parameters", 3), ("arrays", 3), ("widths", 4)]:
                variables = [(name, 0, 1) for name in named(4, "u" if kind != "widths" else "a")]
                arguments = {"variables": variables, "main": (), kind: rows[kind]}
                if many > most or (many == 0 and kind == "variables"):
                    self.fails(InvalidProgram, rows[kind], Program, **arguments)
                    arguments[kind] = tuple(rows[kind])
                    self.fails(InvalidProgram, arguments[kind], Program, **arguments)
                else:
                    self.assertEqual(getattr(Program(**arguments), kind), tuple(rows[kind]))

    def test_ranges(self):
        for low, high in [(0, 0), (-FAR, FAR), (FAR, FAR), (-FAR, -FAR), (-2, -1)]:
            self.assertEqual(Program([("x", low, high)], ()).variables, (("x", low, high),))
            self.assertEqual(Program(X, (), parameters=[("p", low, high)]).parameters, (("p", low, high),))
        for low, high in [(1, 0), (FAR + 1, FAR + 1), (-FAR - 1, 0), (0, FAR + 1), (True, 1), (0, True), (-1, -2)]:
            for rows in [[("x", low, high)], (("x", low, high),), [("y", 0, 0), ("x", low, high)]]:
                self.wrong(rows, variables=rows)
            for rows in [[("p", low, high)], (("p", low, high),), [("q", 0, 0), ("p", low, high)]]:
                self.wrong(rows, parameters=rows)

    def test_lengths_and_bits(self):
        for length in [1, 2, FAR]:
            self.assertEqual(Program(X, (), arrays=[("a", length)]).arrays, (("a", length),))
        for length in [0, -1, FAR + 1, True, None, "1", 1.0]:
            rows = [("b", 1), ("a", length)]
            self.wrong(rows, arrays=rows)
        for bits in [2, 3, 63, 64]:
            self.assertEqual(Program(X, (), widths=[("x", bits)]).widths, (("x", bits),))
        for bits in [1, 0, -1, 65, True, None, "2", 2.0]:
            rows = [("x", bits)]
            self.wrong(rows, widths=rows)

    def test_any_object_for_an_argument(self):
        for kind in ["variables", "main", "procedures", "parameters", "arrays", "widths"]:
            for value in odd_objects() + [0, 1, "x", ("x",), ["x"], [("x",)], [()], [[]], {"x": 1}]:
                if isinstance(value, (list, tuple)) and len(value) == 0 and kind != "variables":
                    continue
                self.wrong(value, **{kind: value})
        self.wrong(empty := [], main=empty)

    def test_any_object_in_a_row(self):
        right = {"variables": ("y", 0, 1), "procedures": ("y", ()), "parameters": ("y", 0, 1), "arrays": ("y", 1),
                 "widths": ("y", 2)}
        for kind, row in right.items():
            for value in odd_objects() + [list(row), row[:-1], row + (0,), row + ((),), "ab", "abc", 3]:
                for rows in [[value], (value,), [row, value], [value, row]]:
                    self.wrong(rows, **{kind: rows})
            for name in odd_names():
                for rows in [[(name,) + row[1:]], [row, (name,) + row[1:]]]:
                    self.wrong(rows, **{kind: rows})
            if kind != "procedures":
                for at in range(1, len(row)):
                    for number in odd_numbers():
                        rows = [row[:at] + (number,) + row[at + 1:]]
                        self.wrong(rows, **{kind: rows})

    def test_wrong_bodies(self):
        for body in [[], (1,), (("place",),), (("place", "a"),) * 41, (("input", "x", 1, 0),), None, "main",
                     (("set", "x", ()),), (("loop", "a", (("loop", "b", (("loop", "c", (("loop", "d", ()),)),)),)),)]:
            self.wrong(body, main=body)
            rows = [("f", body)]
            self.wrong(rows, procedures=rows)
            rows = (("e", ()), ("f", body))
            self.wrong(rows, procedures=rows)

    def test_bodies_have_40_statements_each(self):
        body = (("place", "a"),) * 40
        program = Program(X, body, procedures=[("f", body), ("h", body)])
        self.assertEqual(program.procedures, (("f", body), ("h", body)))

    def test_widths_twice(self):
        rows = [("x", 2), ("x", 3)]
        self.wrong(rows, widths=rows)
        rows = (("x", 2), ("y", 2), ("x", 2))
        self.wrong(rows, variables=[("x", 0, 0), ("y", 0, 0)], widths=rows)
        rows = [("none", 2), ("none", 2)]
        self.wrong(rows, widths=rows)

    def test_first_of_two(self):
        order = ["variables", "main", "procedures", "parameters", "arrays", "widths"]
        for at, first in enumerate(order):
            for second in order[at + 1:]:
                for wrong in [Touchy(), None, 7]:
                    self.wrong(wrong, **{first: wrong, second: object()})
        wrong = ()
        self.wrong(wrong, variables=wrong, main=5, widths=None)

    def test_forms_go_ahead_of_names(self):
        twice = [("x", 0, 1), ("x", 0, 1)]
        for kind in ["main", "procedures", "parameters", "arrays", "widths"]:
            wrong = object()
            self.wrong(wrong, variables=twice, **{kind: wrong})
        wrong = [("x", 1)]
        self.wrong(wrong, variables=twice, main=(("call", "f"),), widths=wrong)

    def test_keywords_only(self):
        self.assertRaises(TypeError, Program, X, (), ())
        self.assertRaises(TypeError, Program, X)
        self.assertEqual(Program(main=(), variables=X), Program(X, ()))


class Names(Case):

    def first_name(self, name, **named_arguments):
        arguments = {"variables": X, "main": (), **named_arguments}
        self.fails_like(InvalidProgram, name, Program, **arguments)

    def test_met_twice(self):
        rows = {"variables": [("a", 0, 1)], "procedures": [("b", ())], "parameters": [("c", 0, 1)],
                "arrays": [("d", 1)]}
        order = list(rows)
        for at, first in enumerate(order):
            for second in order[at:]:
                name = rows[first][0][0]
                again = rows[second] + [(name,) + rows[second][0][1:]]
                self.first_name(name, **{**rows, second: again})
                self.first_name(name, **{**rows, second: tuple(again[::-1])})

    def test_main(self):
        self.first_name("main", variables=[("main", 0, 1)])
        self.first_name("main", procedures=[("main", ())])
        self.first_name("main", procedures=[("f", ()), ("main", ())])
        self.first_name("main", parameters=[("main", 0, 1)])
        self.first_name("main", arrays=[("main", 1)])

    def test_first_of_two(self):
        self.first_name("x", variables=[("x", 0, 1), ("x", 0, 1)], procedures=[("main", ())])
        self.first_name("main", variables=[("x", 0, 1), ("main", 0, 1), ("x", 0, 1)])
        self.first_name("x", procedures=[("x", ()), ("f", ()), ("f", ())])
        self.first_name("f", procedures=[("f", ()), ("f", ())], parameters=[("x", 0, 1)])
        self.first_name("p", parameters=[("p", 0, 1), ("p", 0, 1)], arrays=[("x", 1)])
        self.first_name("f", procedures=[("f", ())], parameters=[("f", 0, 1)], arrays=[("x", 1)])
        self.first_name("p", parameters=[("p", 0, 1)], arrays=[("p", 1), ("x", 1)])
        self.first_name("q", parameters=[("p", 0, 1), ("q", 0, 1), ("q", 0, 1), ], arrays=[("p", 1)])

    def test_names_go_ahead_of_bodies(self):
        wrong = (("call", "f"),)
        self.first_name("x", main=wrong, arrays=[("x", 1)])
        self.first_name("main", main=wrong, parameters=[("main", 1, 1)], widths=[("y", 2)])

    def test_widths_share_no_names(self):
        self.assertEqual(Program(X, (), widths=[("x", 2)]).widths, (("x", 2),))

    def test_words_of_statements_are_names(self):
        for name in ["set", "input", "either", "loop", "call", "place", "read", "guard", "end", "or", "var", "proc"]:
            self.assertEqual(Program([(name, 0, 1)], (("set", name, ((name, 1),)),)).names, (name,))


class NamesInBodies(Case):

    def setUp(self):
        self.around = {"variables": [("x", 0, 1), ("y", 0, 1)], "parameters": [("p", 0, 1)], "arrays": [("r", 1)],
                       "procedures": [("f", ()), ("g", ())]}

    def right(self, main, **changes):
        self.assertEqual(Program(**{**self.around, "main": main, **changes}).main, main)

    def wrong(self, main, **changes):
        self.fails(InvalidProgram, main, Program, **{**self.around, "main": main, **changes})

    def test_needed_names(self):
        kinds = {"x": "variable", "p": "parameter", "r": "array", "f": "procedure", "go": "loop", "here": "place",
                 "k": "guard", "none": "nothing", "main": "main"}
        ahead = (("loop", "go", (("place", "here"),)), ("guard", "k", "y", 0, 1))
        for name, kind in kinds.items():
            needs = {("set", name, (("y", 0),)): "variable", ("set", "y", ((name, 0),)): "variable",
                     ("set", "y", ((None, 0), (name, 0))): "variable", ("set", "y", ((None, name),)): "parameter",
                     ("set", "y", (("y", name),)): "parameter", ("set", "y", (("x", 1), (None, name))): "parameter",
                     ("input", name, 0, 1): "variable", ("call", name): "procedure", ("read", name, "y"): "array",
                     ("read", "r", name): "variable", ("guard", "new", name, 0, 1): "variable"}
            for statement, need in needs.items():
                for body in [ahead + (statement,), ahead + (("either", (statement,), ()),),
                             ahead + (("either", (), (statement,)),), ahead + (("loop", "last", (statement,)),)]:
                    if kind == need:
                        self.right(body)
                    else:
                        self.wrong(body)

    def test_new_names(self):
        for name in ["x", "y", "p", "r", "f", "g", "main"]:
            self.wrong((("loop", name, ()),))
            self.wrong((("place", name),))
            self.wrong((("guard", name, "x", 0, 1),))
        self.right((("loop", "a", ()), ("place", "b"), ("guard", "c", "x", 0, 1)))

    def test_names_met_in_one_body(self):
        makers = {"loop": lambda name: ("loop", name, ()), "place": lambda name: ("place", name),
                  "guard": lambda name: ("guard", name, "x", 0, 1)}
        for first, one in makers.items():
            for second, other in makers.items():
                bodies = [(one("a"), other("a")), (one("a"), ("place", "b"), ("loop", "c", (other("a"),))),
                          (("either", (one("a"),), (other("a"),)),), (("either", (one("a"),), ()), other("a"))]
                for body in bodies:
                    if first == second == "place":
                        self.right(body)
                    else:
                        self.wrong(body)
        self.wrong((("loop", "a", (("loop", "a", ()),)),))
        self.wrong((("loop", "a", (("place", "a"),)),))
        self.wrong((("loop", "a", (("guard", "a", "x", 0, 1),)),))

    def test_names_met_in_several_bodies(self):
        makers = {"loop": lambda name: ("loop", name, ()), "place": lambda name: ("place", name),
                  "guard": lambda name: ("guard", name, "x", 0, 1)}
        for first, one in makers.items():
            for second, other in makers.items():
                ahead, behind = (one("a"),), (("place", "z"), other("a"))
                if first == second == "place":
                    self.assertEqual(Program(X, ahead, procedures=[("f", behind)]).places, ("a", "z"))
                    continue
                self.fails(InvalidProgram, behind, Program, X, ahead, procedures=[("f", behind)])
                self.fails(InvalidProgram, behind, Program, X, (), procedures=[("f", ahead), ("g", behind)])
                self.fails(InvalidProgram, behind, Program, X, (), procedures=[("f", ahead), ("e", ()), ("g", behind)])

    def test_the_first_wrong_body(self):
        wrong, also = (("call", "none"),), (("place", "x"),)
        self.fails(InvalidProgram, wrong, Program, X, wrong, procedures=[("f", also)])
        self.fails(InvalidProgram, wrong, Program, X, (), procedures=[("f", wrong), ("g", also)])
        self.fails(InvalidProgram, also, Program, X, (), procedures=[("f", also), ("g", wrong)])
        self.fails(InvalidProgram, wrong, Program, X, (), procedures=[("f", ()), ("g", wrong)], widths=[("z", 2)])

    def test_the_body_is_whole(self):
        body = (("place", "a"), ("loop", "b", (("either", (), (("call", "none"),)),)), ("place", "c"))
        self.wrong(body)
        self.fails(InvalidProgram, body, Program, X, (), procedures=[("f", body)])

    def test_calls(self):
        def program(calls):
            rows = [(name, tuple([("call", one) for one in calls.get(name, "")])) for name in "abcd"]
            main = tuple([("call", one) for one in calls.get("main", "")])
            return rows, main

        rows, main = program({"main": "abcda", "a": "bcdd", "b": "cd", "c": "d"})
        self.assertEqual(Program(X, main, procedures=rows).procedures, tuple(rows))
        for at, name in enumerate("abcd"):
            for other in "abcd"[:at + 1]:
                rows, main = program({name: other})
                self.fails(InvalidProgram, rows[at][1], Program, X, main, procedures=rows)
            rows, main = program({name: ["main"]})
            self.fails(InvalidProgram, rows[at][1], Program, X, main, procedures=rows)
        rows, main = program({"main": ["main"]})
        self.fails(InvalidProgram, main, Program, X, main, procedures=rows)

    def test_calls_inside(self):
        for inside in [("loop", "l", (("call", "f"),)), ("either", (("call", "f"),), ()),
                       ("either", (), (("call", "f"),))]:
            body = (inside,)
            self.fails(InvalidProgram, body, Program, X, (), procedures=[("f", body)])
            self.fails(InvalidProgram, body, Program, X, (), procedures=[("f", ()), ("g", body)])
            self.assertEqual(Program(X, (), procedures=[("g", body), ("f", ())]).loops, ("l",) * (inside[0] == "loop"))

    def test_widths_of_no_variable(self):
        around = {"parameters": [("p", 0, 1)], "arrays": [("r", 1)], "procedures": [("f", ())]}
        main = (("loop", "go", ()), ("place", "here"), ("guard", "g", "x", 0, 1))
        for name in ["p", "r", "f", "go", "here", "g", "main", "none"]:
            self.fails_like(InvalidProgram, name, Program, X, main, widths=[("x", 2), (name, 3), ("zz", 2)], **around)
        self.fails_like(InvalidProgram, "b", Program, X, main, widths=(("b", 2), ("a", 3)), **around)


class Properties(Case):

    def test_all(self):
        program = full()
        self.assertEqual(program.variables, (("x", 0, 4), ("y", -5, 5)))
        self.assertEqual(program.names, ("x", "y"))
        self.assertEqual(program.procedures[0][0], "f")
        self.assertEqual(program.procedures[1], ("h", (("set", "y", (("x", 0),)), ("place", "last"))))
        self.assertEqual(program.parameters, (("p", 1, 2), ("q", 0, 0)))
        self.assertEqual(program.arrays, (("rows", 10),))
        self.assertEqual(program.widths, (("x", 4), ("y", 64)))
        self.assertEqual(program.loops, ("go", "in"))
        self.assertEqual(program.places, ("here", "there", "last"))
        self.assertEqual(program.guards, ("g", "k"))
        self.is_false(program.is_single)

    def test_least(self):
        program = Program(X, ())
        self.assertEqual((program.variables, program.main, program.names), ((("x", 0, 4),), (), ("x",)))
        for found in [program.procedures, program.parameters, program.arrays, program.widths, program.loops,
                      program.places, program.guards]:
            self.assertEqual(found, ())
        self.is_true(program.is_single)

    def test_tuples(self):
        for program in [full(), Program(X, ())]:
            for name in ["variables", "main", "procedures", "parameters", "arrays", "widths", "names", "loops",
                         "places", "guards"]:
                self.assertIs(type(getattr(program, name)), tuple, name)
            self.assertIs(type(program.is_single), bool)

    def test_order_of_names(self):
        main = (("loop", "d", (("loop", "c", ()), ("place", "z"), ("guard", "m", "x", 0, 1))), ("loop", "b", ()),
                ("either", (("loop", "a", ()), ("place", "y")), (("guard", "l", "x", 0, 1), ("loop", "e", ()))),
                ("place", "z"), ("guard", "k", "x", 0, 1), ("call", "g"))
        later = (("place", "y"), ("place", "w"), ("loop", "aa", ()), ("guard", "j", "x", 0, 1))
        last = (("place", "v"), ("place", "z"), ("loop", "ab", ()), ("guard", "i", "x", 0, 1))
        program = Program(X, main, procedures=[("f", later), ("g", last)])
        self.assertEqual(program.loops, ("d", "c", "b", "a", "e", "aa", "ab"))
        self.assertEqual(program.places, ("z", "y", "w", "v"))
        self.assertEqual(program.guards, ("m", "l", "k", "j", "i"))

    def test_is_single(self):
        one, two = ("set", "x", (("x", 1),)), ("set", "x", (("x", 1), (None, 0)))
        for statement, expected in [(one, True), (two, False), (("input", "x", 0, 1), True)]:
            for body in [(statement,), (one, statement), (statement, one), (("loop", "a", (statement,)),),
                         (("either", (statement,), ()),), (("either", (), (statement,)),)]:
                self.assertIs(Program(X, body).is_single, expected)
                self.assertIs(Program(X, (), procedures=[("f", body)]).is_single, expected)
                self.assertIs(Program(X, (), procedures=[("e", ()), ("f", body)]).is_single, expected)

    def test_lists_and_tuples(self):
        for made in [list, tuple]:
            program = Program(made([("x", 0, 4), ("y", -5, 5)]), full().main, procedures=made(full().procedures),
                              parameters=made(full().parameters), arrays=made(full().arrays),
                              widths=made(full().widths))
            self.assertEqual(program, full())
            self.assertEqual(program.variables, full().variables)

    def test_later_changes(self):
        variables, procedures, parameters = [("x", 0, 4)], [("f", ())], [("p", 0, 1)]
        arrays, widths = [("r", 1)], [("x", 2)]
        program = Program(variables, (), procedures=procedures, parameters=parameters, arrays=arrays, widths=widths)
        for rows in [variables, procedures, parameters, arrays, widths]:
            rows[0] = ("z", 5)
            rows.append(3)
        self.assertEqual(program, Program(X, (), procedures=[("f", ())], parameters=[("p", 0, 1)], arrays=[("r", 1)],
                                          widths=[("x", 2)]))
        self.assertEqual(program.names, ("x",))

    def test_arguments_are_not_changed(self):
        variables, procedures = [("x", 0, 4)], [("f", (("place", "a"),))]
        program = Program(variables, (), procedures=procedures)
        program.replaced("f", ())
        self.assertEqual((variables, procedures), ([("x", 0, 4)], [("f", (("place", "a"),))]))

    def test_properties_are_not_assigned(self):
        program = full()
        for name in ["variables", "main", "procedures", "parameters", "arrays", "widths", "names", "loops", "places",
                     "guards", "is_single"]:
            with self.assertRaises(AttributeError):
                setattr(program, name, ())
            self.assertIsInstance(vars(Program)[name], property)

    def test_example(self):
        program = Program([("x", 0, 4)], BODY, procedures=[("f", (("input", "x", 0, 9),))], parameters=[("p", 1, 2)])
        self.assertEqual(program.names, ("x",))
        self.is_false(program.is_single)


class Equality(Case):

    def test_equal(self):
        self.is_true(full() == full())
        self.is_false(full() != full())
        self.is_true(Program(X, ()) == Program(tuple(X), (), procedures=[], widths=()))
        one = full()
        self.is_true(one == one)

    def test_each_property(self):
        basis = {"variables": [("x", 0, 4)], "main": (), "procedures": [("f", ()), ("g", ())],
                 "parameters": [("p", 0, 1), ("q", 0, 1)], "arrays": [("r", 1), ("s", 1)], "widths": [("x", 2)]}
        changes = {"variables": [[("x", 0, 5)], [("x", 1, 4)], [("x", 0, 4), ("y", 0, 4)]],
                   "main": [(("place", "a"),), (("either", (), ()),)],
                   "procedures": [[("g", ()), ("f", ())], [("f", ())], [], [("f", ()), ("g", (("call", "f"),))][:1]],
                   "parameters": [[("q", 0, 1), ("p", 0, 1)], [], [("p", 0, 2), ("q", 0, 1)]],
                   "arrays": [[("s", 1), ("r", 1)], [], [("r", 1), ("s", 2)]],
                   "widths": [[], [("x", 3)]]}
        program = Program(**basis)
        for kind, values in changes.items():
            for value in values:
                other = Program(**{**basis, kind: value})
                self.is_false(program == other, (kind, value))
                self.is_true(program != other, (kind, value))
                self.is_false(other == program, (kind, value))

    def test_order_of_variables_and_widths(self):
        rows = [("x", 0, 1), ("y", 0, 1)]
        self.is_false(Program(rows, ()) == Program(rows[::-1], ()))
        self.is_false(Program(rows, (), widths=[("x", 2), ("y", 2)])
                      == Program(rows, (), widths=[("y", 2), ("x", 2)]))

    def test_other_classes(self):
        program = Program(X, ())
        for other in odd_objects() + [program.variables, "x", 0]:
            if type(other).__name__ not in ("Touchy", "Agreeing"):
                self.is_false(program == other)
                self.is_true(program != other)
                self.is_false(other == program)
        self.is_false(program == [o for o in odd_objects() if type(o).__name__ == "Agreeing"][0])


if __name__ == "__main__":
    unittest.main()
