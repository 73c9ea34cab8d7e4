"""Texts of programs."""

import unittest

from safeupto.errors import InvalidProgram, ParseError
from safeupto.formats import format_program, parse_program
from safeupto.programs import Program
from tests.helpers import Case, odd_objects
from tests.making import made_up
from tests.test_programs import full

FAR = 10 ** 30
X = [("x", 0, 4), ("y", -2, 3)]


def text(*lines):
    return "\n".join(lines)


def around(*statements, heads=("var x 0 4", "var y -2 3")):
    """A text with these statements in main."""
    return text(*heads, "main", *statements, "end")


class Formatting(Case):

    def written(self, program, *lines):
        self.assertEqual(format_program(program).split("\n"), list(lines))
        self.assertEqual(parse_program(text(*lines)), program)

    def test_least(self):
        self.written(Program([("x", 0, 0)], ()), "var x 0 0", "main", "end")
        self.assertIs(type(format_program(Program([("x", 0, 0)], ()))), str)
        self.assertEqual(format_program(program=Program([("x", 0, 0)], ())), "var x 0 0\nmain\nend")

    def test_order_of_heads(self):
        program = Program([("b", 0, 1), ("a", -FAR, FAR)], (), procedures=[("g", ()), ("f", ())],
                          parameters=[("q", -3, -2), ("p", 1, 1)], arrays=[("s", FAR), ("r", 1)],
                          widths=[("b", 64), ("a", 2)])
        self.written(program, "var b 0 1", f"var a {-FAR} {FAR}", "param q -3 -2", "param p 1 1", f"array s {FAR}",
                     "array r 1", "width b 64", "width a 2", "proc g", "end", "proc f", "end", "main", "end")

    def test_statements(self):
        body = (("input", "x", -3, 4), ("call", "f"), ("place", "here"), ("read", "r", "y"),
                ("guard", "g", "x", -10, 99), ("set", "y", ((None, 0),)))
        self.written(Program(X, body, procedures=[("f", body[2:4])], arrays=[("r", 3)]),
                     "var x 0 4", "var y -2 3", "array r 3", "proc f", "place here", "read r y", "end", "main",
                     "input x -3 4", "call f", "place here", "read r y", "guard g x -10 99", "set y 0", "end")

    def test_bodies_inside(self):
        body = (("either", (), ()), ("loop", "a", ()), ("either", (("place", "p"),), (("place", "q"),)),
                ("either", (), (("loop", "b", (("either", (("place", "p"),), ()),)),)), ("place", "r"))
        self.written(Program(X, body), "var x 0 4", "var y -2 3", "main", "either", "or", "end", "loop a", "end",
                     "either", "place p", "or", "place q", "end", "either", "or", "loop b", "either", "place p", "or",
                     "end", "end", "end", "place r", "end")

    def test_parts(self):
        parts = {("x", 0): "x", ("x", 3): "x+3", ("x", -3): "x-3", ("x", "p"): "x+p", (None, 3): "3",
                 (None, -3): "-3", (None, 0): "0", (None, "p"): "p", ("x", FAR): f"x+{FAR}", ("x", -FAR): f"x-{FAR}",
                 (None, FAR): str(FAR), (None, -FAR): str(-FAR), ("x", 1): "x+1", ("x", -1): "x-1"}
        for part, word in parts.items():
            program = Program([("x", 0, 4)], (("set", "x", (part,)),), parameters=[("p", 0, 1)])
            self.written(program, "var x 0 4", "param p 0 1", "main", f"set x {word}", "end")

    def test_several_parts(self):
        parts = (("y", -2), (None, "p"), ("x", 0))
        self.written(Program(X, (("set", "x", parts),), parameters=[("p", 0, 1)]), "var x 0 4", "var y -2 3",
                     "param p 0 1", "main", "set x y-2 p x", "end")

    def test_words_of_lines_as_names(self):
        variables = [("set", 0, 1), ("end", 0, 1), ("or", 0, 1), ("var", 0, 1)]
        body = (("set", "set", (("end", 0), ("or", "param"), (None, 1))), ("loop", "loop", (("place", "either"),)),
                ("call", "proc"), ("guard", "guard", "var", 1, 1))
        self.written(Program(variables, body, procedures=[("proc", ())], parameters=[("param", 0, 0)]),
                     "var set 0 1", "var end 0 1", "var or 0 1", "var var 0 1", "param param 0 0", "proc proc", "end",
                     "main", "set set end or+param 1", "loop loop", "place either", "end", "call proc",
                     "guard guard var 1 1", "end")

    def test_names_like_the_last_line_of_a_body(self):
        body = (("either", (("place", "or"),), (("place", "or"),)), ("call", "end"),
                ("loop", "a", (("call", "end"), ("place", "or"))), ("call", "end"))
        self.written(Program([("x", 0, 4)], body, procedures=[("end", ())]), "var x 0 4", "proc end", "end", "main",
                     "either", "place or", "or", "place or", "end", "call end", "loop a", "call end", "place or",
                     "end", "call end", "end")

    def test_read_back(self):
        programs = [full()] + made_up(range(150)) + made_up(range(150, 200), single=True, length=4)
        self.assertGreater(len(programs), 150)
        for program in programs:
            written = format_program(program)
            self.assertEqual(parse_program(written), program)
            self.assertEqual(format_program(parse_program(text=written)), written)

    def test_four_levels(self):
        body = ()
        for name in "abc":
            body = (("loop", name, body), ("either", (), (("place", "here"),) if name == "a" else ()))
        self.written(Program(X, body), "var x 0 4", "var y -2 3", "main", "loop c", "loop b", "loop a", "end",
                     "either", "or", "place here", "end", "end", "either", "or", "end", "end", "either", "or", "end",
                     "end")

    def test_defined_in_this_file(self):
        self.assertEqual({format_program.__module__, parse_program.__module__}, {"safeupto.formats"})


class Parsing(Case):

    def line(self, line, written):
        self.assertEqual(self.failing(ParseError, parse_program, written).line, line, written)

    def test_no_string(self):
        for value in odd_objects() + [0, ["main", "end"], b"main\nend", ("main", "end")]:
            if not isinstance(value, str):
                self.assertIs(self.failing(ParseError, parse_program, value).line, None)

    def test_empty_text(self):
        self.line(0, "")

    def test_missing_lines(self):
        lines = ["var x 0 4", "param p 0 1", "array r 1", "width x 4", "proc f", "place a", "end", "main", "either",
                 "loop l", "place a", "end", "or", "set x x+1 p", "end", "end"]
        self.assertEqual(parse_program(text(*lines)).places, ("a",))
        for many in range(1, len(lines)):
            self.line(many, text(*lines[:many]))

    def test_more_lines(self):
        for more in ["", " ", "end", "main", "place a", "var x 0 1", "proc f", "or"]:
            self.line(4, text("var x 0 4", "main", "place a", "end", more))
            self.line(4, text("var x 0 4", "main", "place a", "end", more, "end"))
        self.line(3, "var x 0 4\nmain\nend\n")
        self.line(3, "var x 0 4\nmain\nend\n\n")

    def test_lines_ahead(self):
        self.line(0, "\nvar x 0 4\nmain\nend")
        self.line(1, "var x 0 4\n\nmain\nend")
        self.line(2, "var x 0 4\nmain\n\nend")

    def test_order_of_heads(self):
        heads = [["var x 0 1"], ["param p 0 1"], ["array r 1"], ["width x 2"], ["proc f", "end"]]
        again = [["var y 0 1"], ["param q 0 1"], ["array s 1"], ["width y 2"], ["proc g", "end"]]
        for at, first in enumerate(heads):
            for other, second in enumerate(again):
                written = text(*first, *second, "main", "end")
                if other < at:
                    self.line(len(first), written)
                elif at == 0 and other != 3:
                    self.assertEqual(parse_program(written).names[0], "x")
                else:
                    self.failing(InvalidProgram, parse_program, written)
        found = parse_program(text("var x 0 1", "var y 0 1", "param p 0 1", "param q 0 1", "array r 1", "array s 1",
                                   "width y 2", "width x 2", "proc f", "end", "proc g", "end", "main", "end"))
        self.assertEqual((found.names, found.parameters, found.arrays, found.widths, found.procedures),
                         (("x", "y"), (("p", 0, 1), ("q", 0, 1)), (("r", 1), ("s", 1)), (("y", 2), ("x", 2)),
                          (("f", ()), ("g", ()))))

    def test_heads_that_do_not_stand_in_bodies(self):
        for head in ["var x 0 1", "param p 0 1", "array r 1", "width x 2", "proc f", "main"]:
            self.line(2, text("var x 0 4", "main", head, "end"))
            self.line(3, text("var x 0 4", "main", "loop a", head, "end", "end"))
            self.line(2, text("var x 0 4", "proc f", head, "end", "main", "end"))
            self.line(3, text("var x 0 4", "main", "either", head, "or", "end", "end"))
            self.line(4, text("var x 0 4", "main", "either", "or", head, "end", "end"))

    def test_statements_that_do_not_stand_in_heads(self):
        for line in ["set x 1", "input x 0 1", "either", "loop a", "call f", "place a", "read r x", "guard g x 1 1",
                     "end", "or"]:
            self.line(0, text(line, "var x 0 1", "main", "end"))
            self.line(1, text("var x 0 1", line, "main", "end"))
            self.line(3, text("var x 0 1", "proc f", "end", line, "main", "end"))
            self.line(3, text("var x 0 1", "main", "end", line))

    def test_end_and_or(self):
        self.line(3, around("or"))
        self.line(4, around("either", "end"))
        self.line(4, around("loop a", "or", "end"))
        self.line(5, around("either", "or", "or", "end"))
        self.line(5, around("either", "loop a", "or", "end", "or", "end"))
        self.line(6, around("either", "loop a", "end", "end", "or", "end"))
        self.line(6, around("either", "or", "loop a", "or", "end", "end"))
        self.line(5, around("loop a", "end", "or"))
        self.line(7, around("either", "or", "end", "end"))
        self.line(6, around("loop a", "end", "end"))
        self.assertEqual(parse_program(around("either", "or", "end")).main, (("either", (), ()),))
        self.line(2, text("proc f", "place a", "or", "end", "main", "end"))

    def test_unknown_words(self):
        for line in ["", " ", "x", "vars x 0 1", "Var x 0 1", "VAR x 0 1", "place", "skip", "#", "0", "if", "round a",
                     "set", "mains", "else", "var", "ends"]:
            self.line(3, around(line))
            self.line(0, text(line, "main", "end"))

    def wrong_line(self, at, written, lines):
        """Looks whether each of these lines cannot stand in the place of the one of this index."""
        ahead, behind = written[:at], written[at + 1:]
        for line in lines:
            self.line(at, text(*ahead, line, *behind))

    def test_number_and_kinds_of_words(self):
        lines = {"var x 0 1": "nii", "param p 0 1": "nii", "array r 1": "ni", "width x 2": "ni", "proc f": "n",
                 "main": "", "input x 0 1": "nii", "call f": "n", "place a": "n", "read r x": "nn",
                 "guard g x 1 1": "nnii", "loop l": "n", "either": "", "or": "", "end": ""}
        written = ["var x 0 1", "param p 0 1", "array r 1", "width x 2", "proc f", "end", "main", "input x 0 1",
                   "call f", "place a", "read r x", "guard g x 1 1", "loop l", "end", "either", "or", "end", "end"]
        parse_program(text(*written))
        names = ["", "X", "x1", "1", "0", "-", "_", "abcdefghi", "-x", "x+1", "Abc", "x,"]
        integers = ["", "x", "-", "00", "01", "-0", "-01", "+1", "1.", "1.0", "1e3", "--1", "1-", "0x1", "-00", "1_0",
                    "9" * 32, "-" + "9" * 32, "0" * 32, "a", "endless", "None", "\u0663", "1\u0663", "\xb2"]
        for at, line in enumerate(written):
            words, kinds = line.split(" "), lines[line]
            self.assertEqual(len(words), len(kinds) + 1)
            self.wrong_line(at, written, [" " + line, line + " ", line + " x", line + " 1", line + " end",
                                          line.replace(" ", "  ", 1) if " " in line else line + "  "])
            if len(words) > 1:
                self.wrong_line(at, written, [" ".join(words[:-1]), words[0], line.replace(" ", "", 1)])
            for place, kind in enumerate(kinds, 1):
                for word in names if kind == "n" else integers:
                    self.wrong_line(at, written, [" ".join(words[:place] + [word] + words[place + 1:])])

    def test_no_other_blanks(self):
        for line in ["place  a", "place a ", " place a", "input x 0  1", "set x  x", "set x x ", "set  x x",
                     "set x x  1", "end ", " end", "either ", "loop a "]:
            self.line(3, around(line))

    def test_integers(self):
        for word, number in {"0": 0, "1": 1, "-1": -1, "10": 10, "-10": -10, str(FAR): FAR, str(-FAR): -FAR,
                             "100": 100, "9": 9, "-9": -9, "9" * 30: 10 ** 30 - 1}.items():
            self.assertEqual(parse_program(around(f"set x {word}")).main, (("set", "x", ((None, number),)),))
            found = parse_program(text(f"var x {word} {word}", "main", f"input x {word} {word}", "end"))
            self.assertEqual(found.variables, (("x", number, number),))
            self.assertEqual(found.main, (("input", "x", number, number),))

    def test_31_and_32_digits(self):
        for digits in ["9" * 31, "1" + "0" * 29 + "1"]:
            number = int(digits)
            body = (("set", "x", ((None, number),)),)
            self.fails_like(InvalidProgram, body, parse_program, around(f"set x {digits}"))
            body = (("set", "x", (("y", -number),)),)
            self.fails_like(InvalidProgram, body, parse_program, around(f"set x y-{digits}"))
            body = (("input", "x", -number, number),)
            self.fails_like(InvalidProgram, body, parse_program, around(f"input x -{digits} {digits}"))
            body = (("guard", "g", "x", number, number),)
            self.fails_like(InvalidProgram, body, parse_program, around(f"guard g x {digits} {digits}"))
        for digits in ["9" * 32, "1" + "0" * 31, "1" * 40]:
            for word in [digits, "-" + digits, "x+" + digits, "x-" + digits]:
                self.line(3, around(f"set x {word}"))
                self.line(3, around(f"set x 1 {word}"))

    def test_wrong_parts(self):
        for word in ["", "x+", "x-", "+x", "-x", "+1", "-", "+", "x+0", "x-0", "x+00", "x+01", "x-01", "x+-1", "x--1",
                     "x-+1", "x++1", "x-p", "x+p+q", "x+1+1", "x+p-1", "x-1+p", "1+x", "3x", "x3", "X", "X+1", "x+P",
                     "00", "-0", "01", "-01", "x*2", "x+1.", "abcdefghi", "abcdefghi+1", "x+abcdefghi", "1+1", "1-1",
                     "1+p", "(x)", "x,1", "x+p1", "x+1p", "-x+1", "+0", "x=1", "x+x+x"]:
            for line in [f"set x {word}", f"set x 1 {word}", f"set x {word} 1", f"set x y {word} 1"]:
                self.line(4, around(line, heads=("var x 0 4", "var y -2 3", "param p 0 1")))

    def test_set_without_parts(self):
        for line in ["set x", "set", "set ", "set x ", "set 1", "set X 1", "set 1 x", "set x+1 x", "set abcdefghi 1"]:
            self.line(3, around(line))

    def test_a_name_alone(self):
        heads = ("var x 0 4", "var y -2 3", "param p 0 1", "param q 0 1")
        parts = {"x": ("x", 0), "y": ("y", 0), "p": (None, "p"), "q": (None, "q"), "x+p": ("x", "p"), "x+q": ("x", "q")}
        for word, part in parts.items():
            self.assertEqual(parse_program(around(f"set x {word}", heads=heads)).main, (("set", "x", (part,)),))
        body = (("set", "x", (("p", 0),)),)
        self.fails_like(InvalidProgram, body, parse_program, around("set x p"))
        body = (("set", "x", (("p", "q"),)),)
        self.fails_like(InvalidProgram, body, parse_program, around("set x p+q", heads=heads))
        body = (("set", "x", (("x", "y"),)),)
        self.fails_like(InvalidProgram, body, parse_program, around("set x x+y", heads=heads))
        body = (("set", "p", ((None, "q"),)),)
        self.fails_like(InvalidProgram, body, parse_program, around("set p q", heads=heads))

    def test_a_name_alone_in_procedures(self):
        found = parse_program(text("var x 0 4", "param p 0 1", "proc f", "set x p", "set x x", "end", "main", "end"))
        self.assertEqual(found.procedures, (("f", (("set", "x", ((None, "p"),)), ("set", "x", (("x", 0),)))),))

    def test_the_fifth_level(self):
        for inside in [["loop d", "end"], ["either", "or", "end"], ["loop d"], ["either"]]:
            lines = ["loop a", "either", "loop b"]
            self.line(6, around(*lines, *inside, "end", "or", "end", "end"))
            self.line(7, around(*lines, "place h", *inside, "end", "or", "end", "end"))
            self.line(6, around("loop a", "loop b", "loop c", *inside, "end", "end", "end"))
            self.line(7, around("either", "or", "either", "loop c", *inside, "end", "or", "end", "end"))
            self.line(8, around("either", "or", "either", "or", "loop c", *inside, "end", "end", "end"))
            self.line(8, around("loop a", "loop b", "loop c", "end", "loop e", *inside, "end", "end", "end"))
            self.line(4, text("proc f", "loop a", "loop b", "loop c", *inside, "end", "end", "end", "end", "main",
                              "end"))
        self.assertEqual(parse_program(around("loop a", "loop b", "loop c", "place h", "end", "loop d", "end", "end",
                                              "end", "loop e", "end")).loops, ("a", "b", "c", "d", "e"))

    def test_the_first_line_counts(self):
        self.line(2, text("var x 0 4", "main", "place A", "place B", "end"))
        self.line(1, text("var x 0 4", "param x", "main", "place B", "end"))
        self.line(2, text("var x 0 4", "main", "place A"))
        self.line(3, text("var x 5 4", "main", "call none", "place A", "end"))

    def test_lines_that_may_stand(self):
        cases = [
            (text("main", "end"), []), (text("proc f", "end", "main", "end"), []),
            (text(*[f"var {name} 0 1" for name in "abcde"], "main", "end"), [(name, 0, 1) for name in "abcde"]),
            (text("var x 5 4", "main", "end"), [("x", 5, 4)]),
            (text("var x 0 1", "var x 0 1", "main", "end"), "x"),
            (text("var main 0 1", "main", "end"), "main"),
            (text("var x 0 1", "param x 0 1", "main", "end"), "x"),
            (text("var x 0 1", *[f"param {name} 0 1" for name in "abcd"], "main", "end"),
             [(name, 0, 1) for name in "abcd"]),
            (text("var x 0 1", *[f"array {name} 1" for name in "abcd"], "main", "end"), [(name, 1) for name in "abcd"]),
            (text("var x 0 1", "array r 0", "main", "end"), [("r", 0)]),
            (text("var x 0 1", "array r -5", "main", "end"), [("r", -5)]),
            (text("var x 0 1", "width x 65", "main", "end"), [("x", 65)]),
            (text("var x 0 1", "width x 2", "width x 2", "main", "end"), [("x", 2), ("x", 2)]),
            (text("var x 0 1", "width y 2", "main", "end"), "y"),
            (text("var x 0 1", *["proc f", "end"] * 5, "main", "end"), [("f", ())] * 5),
            (text("var x 0 1", "proc main", "end", "main", "end"), "main"),
            (text("var x 0 1", "proc f", "call f", "end", "main", "end"), (("call", "f"),)),
            (around("call f"), (("call", "f"),)), (around("input x 1 0"), (("input", "x", 1, 0),)),
            (around("guard g x 0 0"), (("guard", "g", "x", 0, 0),)),
            (around("guard g x 0 100"), (("guard", "g", "x", 0, 100),)),
            (around("set x 1 2"), (("set", "x", ((None, 1), (None, 2))),)),
            (around("set x x x"), (("set", "x", (("x", 0), ("x", 0))),)),
            (around("set x a b c d e"), (("set", "x", tuple([(name, 0) for name in "abcde"])),)),
            (around("set z 1"), (("set", "z", ((None, 1),)),)),
            (around("loop a", "loop a", "end", "end"), (("loop", "a", (("loop", "a", ()),)),)),
            (around(*["place a"] * 41), (("place", "a"),) * 41),
            (around("read r x"), (("read", "r", "x"),)),
            (around("place x"), (("place", "x"),)),
        ]
        for written, value in cases:
            self.assertEqual(self.failing(InvalidProgram, parse_program, written).value, value, written)

    def test_40_statements(self):
        self.assertEqual(len(parse_program(around(*["place a"] * 40)).main), 40)

    def test_first_word_decides_ahead_of_the_program(self):
        # The lines are looked at to the end before the program is.
        self.line(3, text("var x 5 4", "var x 5 4", "main", "wrong", "end"))
        self.line(3, text("main", "call none", "end", "end"))

    def test_four_parts(self):
        heads = [f"var {name} 0 1" for name in "abcd"]
        found = parse_program(around("set a a b+1 c-1 d", heads=heads))
        self.assertEqual(found.main, (("set", "a", (("a", 0), ("b", 1), ("c", -1), ("d", 0))),))


if __name__ == "__main__":
    unittest.main()
