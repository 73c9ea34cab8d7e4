"""The console."""

import random
import unittest

from safeupto.console import Console
from safeupto.errors import (InvalidCommand, InvalidCondition, InvalidNumber, InvalidProgram, InvalidSize, ParseError, SafeError,
                             TooMany)
from safeupto.formats import format_program
from safeupto.graphs import Graph
from safeupto.guards import least_guards
from safeupto.limits import limit
from safeupto.programs import Program
from safeupto.rates import rate
from safeupto.values import greatest
from safeupto.wishes import safe_up_to
from tests.growing import chain, sizes_of
from tests.guarding import guarded
from tests.helpers import Case, odd_objects

FAR = 10 ** 30
LOAD = "load var x 0 0; main; loop go; set x x+3; place here; end; end"
COMMANDS = ["size rounds go", "size steps -", "limit here x - 9", "rate here x -", "greatest here x - 3", "safe",
            "guards here x 9", "points"]


def loaded(text=LOAD):
    console = Console()
    console.run(text)
    return console


def load_line(program):
    return "load " + format_program(program).replace("\n", "; ")


class Commands(Case):

    def test_answers(self):
        console = Console()
        for line, answer in [
                (LOAD, "ok"), ("points", "6"), ("limit here x - 9", "3"), ("size rounds go", "ok"), ("limit here x - 9", "3"),
                ("limit here x - 2", "0"), ("limit here x - -1", "0"), ("limit 0 x - -1", "-1"), ("limit here - x 0", "ever"),
                (f"limit here x - {FAR}", str(FAR // 3)), ("rate here x -", "3/1"), ("rate here - x", "0/1"),
                ("greatest here x - 4", "12"), ("greatest here x - 0", "none"), (f"greatest here x - {FAR}", str(3 * FAR)),
                ("size calls -", "ok"), ("greatest here x - 0", "endless"), ("rate here x -", "endless"),
                ("limit here x - 9", "-1"), ("limit 0 x - 0", "ever"), ("safe", "ever"), ("guards here x 9", "none"),
                ("guards 0 x 0", "0"), ("size steps -", "ok"), ("rate here x -", "3/1"), ("limit here x - 9", "3")]:
            found = console.run(line)
            self.assertIs(type(found), str)
            self.assertEqual(found, answer, line)
        self.assertEqual(console.run(line="points"), "6")

    def test_safe_and_guards(self):
        console = loaded("load var x 0 0; width x 4; main; loop go; set x x+1; guard g x 5 2; guard h x 4 2; guard f x 9 1; "
                         "place here; end; end")
        self.assertEqual([console.run(line) for line in ["safe", "size rounds go", "safe", "size calls -", "safe"]],
                         ["7", "ok", "7", "ok", "-1"])
        self.assertEqual([console.run(f"guards here x {most}") for most in [3, 4, 5, 8, 9, -FAR]],
                         ["none", "2 h", "2 g", "2 g", "1 f", "none"])
        console = loaded("load var x 0 0; var y 0 0; main; loop a; set x x+1; guard g x 5 2; end; loop b; set y y+1; "
                         "guard f y 5 40; end; set x x y; place here; end")
        self.assertEqual(console.run("guards here x 5"), "42 f g")

    def test_against_functions(self):
        for seed, program in guarded(range(80000, 80080)):
            chance, console = random.Random(seed), Console()
            self.assertEqual(console.run(load_line(program)), "ok")
            self.assertEqual(console.run("points"), str(Graph(program).points))
            size = ("steps", None)
            for _ in range(6):
                place = chance.choice(["here", "here", chance.randrange(Graph(program).points)])
                plus, minus = chance.choice([None, *program.names]), chance.choice([None, None, *program.names])
                most = chance.choice([-3, 0, 5, 100])
                words = f"{place} {plus or '-'} {minus or '-'}"
                self.both(lambda: console.run(f"limit {words} {most}"),
                          lambda: limit(program, (place, plus, minus, most), size).size, {None: "ever"})
                self.both(lambda: console.run(f"rate {words}"),
                          lambda: "{}/{}".format(*found) if type(found := rate(program, (place, plus, minus, 0), size)) is tuple
                          else found, {})
                self.both(lambda: console.run(f"greatest {words} {most}"),
                          lambda: greatest(program, (place, plus, minus, 0), size, most), {None: "none"})
                self.both(lambda: console.run(f"guards {place} {plus or '-'} {most}"),
                          lambda: " ".join([str(found[0]), *found[1]])
                          if (found := least_guards(program, (place, plus, None, most))) else "none", {})
                self.both(lambda: console.run("safe"), lambda: safe_up_to(program, size).size, {None: "ever"})
                size = chance.choice(sizes_of(program))
                self.assertEqual(console.run(f"size {size[0]} {size[1] or '-'}"), "ok")

    def both(self, told, call, words):
        """Looks whether both give the same answer, or raise the same error."""
        try:
            expected = call()
        except (SafeError, TooMany) as error:
            found = self.failing(type(error), told)
            self.assertEqual(vars(found), vars(error))
            return
        self.assertEqual(told(), words.get(expected, str(expected)))

    def test_size_behind_a_load(self):
        console = loaded()
        console.run("size calls -")
        self.assertEqual(console.run("limit here x - 9"), "-1")
        self.assertEqual(console.run(LOAD), "ok")
        self.assertEqual(console.run("limit here x - 9"), "3")

    def test_two_consoles(self):
        one, other = Console(), Console()
        one.run(LOAD)
        self.fails(InvalidCommand, "points", other.run, "points")
        other.run("load var y 0 0; main; end")
        one.run("size calls -")
        self.assertEqual((one.run("points"), other.run("points")), ("6", "1"))
        self.assertEqual((one.run("rate here x -"), other.run("rate 0 y -")), ("endless", "0/1"))
        self.assertEqual(loaded().run("rate here x -"), "3/1")


class Refused(Case):

    def test_no_program(self):
        for line in COMMANDS + ["size rounds gone", "limit gone x - 9", "nothing"]:
            self.fails(InvalidCommand, line, Console().run, line)
        console = Console()
        self.failing(ParseError, console.run, "load nothing")
        self.failing(InvalidProgram, console.run, "load main; end")
        self.fails(InvalidCommand, "points", console.run, "points")

    def test_lines(self):
        console = loaded()
        lines = [one for one in odd_objects() if type(one) is not str] + ["", " ", "\n", "load", "load ", " load", "load  main; end"]
        for line in COMMANDS:
            lines += [" " + line, line + " ", line + "\n", "\n" + line, line.upper(), line.capitalize(), line + " x", line + " 1",
                      line.replace(" ", "  ", 1) if " " in line else line + "  ", line.rpartition(" ")[0], line + " -", line + ";",
                      line.replace("here", "here\n") + "\n", "x" + line, line.replace(" ", "\t") + "\t"]
        for line in lines:
            self.fails(InvalidCommand, line, console.run, line)
        for line in [LOAD + "\n", LOAD + " ", LOAD.replace("; ", ";  "), LOAD.replace("; ", "\n")]:
            self.fails(InvalidCommand, line, console.run, line)

    def test_words(self):
        console = loaded()
        numbers = ["01", "-01", "-0", "+1", "1.0", "--1", "", "x", "1x", "-", "1" * 32, "-" + "1" * 32, "1_0", "0x1", "1;"]
        for word in numbers:
            for line in [f"limit here x - {word}", f"greatest here x - {word}", f"guards here x {word}"]:
                self.fails(InvalidCommand, line, console.run, line)
        for word in [one for one in numbers if one != "x"] + ["-1", "X", "x1", "ninechars", "he.re"]:
            for line in [f"limit {word} x - 1", f"rate {word} x -", f"greatest {word} x - 1", f"guards {word} x 1"]:
                self.fails(InvalidCommand, line, console.run, line)
        for word in ["X", "x1", "ninechars", "1", "0", "", "--", "x;", "None"]:
            for line in [f"limit here {word} - 1", f"limit here x {word} 1", f"rate here {word} -", f"rate here x {word}",
                         f"greatest here {word} - 1", f"guards here {word} 1", f"size rounds {word}", f"size steps {word}"]:
                self.fails(InvalidCommand, line, console.run, line)
        for word in ["round", "call", "step", "ROUNDS", "-", "x", "rounds;", "1"]:
            line = f"size {word} -"
            self.fails(InvalidCommand, line, console.run, line)

    def test_load(self):
        console = loaded()
        console.run("size calls -")
        for text, line in [("x", 0), ("var x 0 0", 1), ("var x 0 0; main", 2), ("main; end; end", 2), ("var x 0 0;main; end", 0),
                           ("var x 0 0; main; set x x+0; end", 2), ("var x 0 0; main; end;", 2), ("var x 0 0; ; main; end", 1),
                           ("var x 0 0; main; loop go; end", 4), ("var x 0 00; main; end", 0), (";", 0)]:
            self.assertEqual(self.failing(ParseError, console.run, "load " + text).line, line, text)
            self.assertEqual(console.run("limit here x - 9"), "-1")
            self.assertEqual(console.run("points"), "6")
        for text in ["main; end", "var x 0 0; var x 0 0; main; end", "var x 1 0; main; end", "var x 0 0; main; set y y; end"]:
            self.failing(InvalidProgram, console.run, "load " + text)
            self.assertEqual(console.run("limit here x - 9"), "-1")
        self.assertEqual(console.run("load var x 0 0; main; end"), "ok")
        self.assertEqual(console.run("points"), "1")

    def test_errors_of_the_operations(self):
        console = loaded()
        for place, plus, minus in [("gone", "x", "-"), ("here", "z", "-"), ("here", "-", "-"), ("here", "x", "x"), ("6", "x", "-")]:
            side = [None if one == "-" else one for one in (plus, minus)]
            where = int(place) if place.isdigit() else place
            for line, most in [(f"limit {place} {plus} {minus} 4", 4), (f"rate {place} {plus} {minus}", 0),
                               (f"greatest {place} {plus} {minus} -5", 0)]:
                self.fails_like(InvalidCondition, (where, *side, most), console.run, line)
            if minus == "-":
                self.fails_like(InvalidCondition, (where, side[0], None, 4), console.run, f"guards {place} {plus} 4")
        self.fails_like(InvalidCondition, ("here", "x", None, FAR + 1), console.run, f"limit here x - {FAR + 1}")
        for number in [-1, FAR + 1]:
            self.fails_like(InvalidNumber, number, console.run, f"greatest here x - {number}")
        for words, size in [("rounds gone", ("rounds", "gone")), ("steps go", ("steps", "go")), ("calls go", ("calls", "go"))]:
            console.run("size calls -")
            self.fails_like(InvalidSize, size, console.run, "size " + words)
            self.assertEqual(console.run("limit here x - 9"), "-1")
        crowded = loaded(load_line(chain(24)))
        crowded.run("size rounds -")
        self.assertEqual(self.failing(TooMany, crowded.run, "limit here x - 9").limit, 24)
        self.assertEqual(self.failing(TooMany, crowded.run, "greatest here x - -1").limit, 24)
        nine = Program([("x", 0, 0)], tuple(("guard", "g" + one, "x", 0, 1) for one in "abcdefghi") + (("place", "here"),))
        self.assertEqual(self.failing(TooMany, loaded(load_line(nine)).run, "guards here x 9").limit, 8)

    def test_programs_that_have_no_graph(self):
        named = loaded("load var x 0 0; param p 0 1; main; loop go; set x x+p; place here; end; end")
        long = loaded(load_line(Program([("x", 0, 0)], (("call", "f"),) * 40, procedures=[("f", (("place", "here"),) * 40)])))
        for line in COMMANDS + ["size rounds gone", "limit gone x - 9"]:
            self.assertEqual(self.failing(InvalidProgram, named.run, line).value.parameters, (("p", 0, 1),))
            self.assertEqual(self.failing(TooMany, long.run, line).limit, 150)


if __name__ == "__main__":
    unittest.main()
