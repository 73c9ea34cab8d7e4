"""Certificates, written and read."""

import random
import unittest

from safeupto.certificates import certify, check
from safeupto.errors import (InvalidCondition, InvalidNumber, InvalidProgram, InvalidSize, ParseError, SafeError, TooMany)
from safeupto.formats import format_program, parse_program
from safeupto.limits import breaking, limit
from safeupto.papers import bounds, heights
from safeupto.programs import Program
from tests.growing import cases, chain, with_most
from tests.helpers import Case, odd_numbers, odd_objects

FAR = 10 ** 30
GO = ("rounds", "go")
STEPS = ("steps", None)
HERE = ("place", "here")
WISH = ("here", "x", None, 9)


def count(gain=3):
    return Program([("x", 0, 0), ("y", 0, 5)], (("loop", "go", (("set", "x", (("x", gain),)), HERE)),))


def dash(side):
    return "-" if side is None else side


def node_line(*nodes):
    return " ".join(f"{point} {dash(plus)} {dash(minus)}" for point, plus, minus in nodes)


def order(rows):
    """Nodes, or tuples of nodes, in their order: None ahead of names."""
    def key(node):
        return tuple((side is not None, side) for side in node)
    return sorted(rows, key=lambda row: key(row) if isinstance(row[0], int) else [key(node) for node in row])


def plain(program, condition, size, most):
    """The certificate, line by line."""
    lines = format_program(program).split("\n")
    lines = [f"program {len(lines)}"] + lines
    place, plus, minus, bound = condition
    lines.append(f"condition {place} {dash(plus)} {dash(minus)} {bound}")
    high = heights(program, condition)
    found = bounds(program, condition, size, most)
    if high is not None:
        lines.append(f"heights {len(high)}")
        lines += [f"{node_line(node)} {high[node]}" for node in order(high)]
    elif found is not None:
        zero, levels = found
        lines.append(f"bounds {size[0]} {dash(size[1])} {most} {len(zero)} {len(levels)}")
        lines += [f"{node_line(*pair)} {zero[pair]}" for pair in order(zero)]
        for level in levels:
            lines.append(f"level {len(level)}")
            lines += [f"{node_line(*pair)} {level[pair]}" for pair in order(level)]
    else:
        rules = breaking(program, condition, size)
        lines.append(f"breaking {size[0]} {dash(size[1])} {most} {len(rules)}")
        for word, first, second in rules:
            if word == "both":
                lines.append(f"both {first} {second}")
            else:
                steps = [f"{edge}:{dash(plus)}:{dash(minus)}" for edge, plus, minus in second]
                lines.append(" ".join(["walk", node_line(first)] + steps))
    return "\n".join(lines)


class Certify(Case):

    def test_line_by_line(self):
        seen = {}
        for program, condition, size in cases(range(70000, 70090)):
            for most in [-20, 0, 5, 40]:
                for number in [0, 1, 2, 7, FAR]:
                    wish = with_most(condition, most)
                    try:
                        expected = plain(program, wish, size, number)
                    except TooMany as error:
                        self.assertEqual(self.failing(TooMany, certify, program, wish, size, number).limit, error.limit)
                        continue
                    found = certify(program, wish, size, number)
                    self.assertEqual(found, expected)
                    self.is_true(check(found))
                    kind = found.split("\ncondition ")[1].split("\n")[1].split(" ")[0]
                    seen[kind] = seen.get(kind, 0) + 1
                    seen["both"] = seen.get("both", 0) + ("\nboth" in found)
                    seen["end"] = seen.get("end", 0) + (" endless" in found)
        self.assertGreater(min(seen.values()), 3)
        self.assertEqual(len(seen), 5)

    def test_which_paper(self):
        program = count()
        kinds = {0: "bounds", 3: "bounds", 4: "breaking", 5: "breaking", FAR: "breaking"}
        for most, kind in kinds.items():
            lines = certify(program, WISH, GO, most).split("\n")
            self.assertEqual(lines[10].split(" ")[:4], [kind, "rounds", "go", str(most)])
        for most in [0, 5, FAR]:
            lines = certify(program, ("here", "y", None, 5), GO, most).split("\n")
            self.assertEqual(lines[9:12], ["condition here y - 5", "heights 5", "0 y - 5"])

    def test_walk_without_steps_and_both(self):
        text = certify(count(), (0, "y", None, 4), STEPS, 0)
        self.assertEqual(text.split("\n")[9:], ["condition 0 y - 4", "breaking steps - 0 1", "walk 0 y -"])
        self.is_true(check(text))
        text = certify(count(), ("here", "x", None, 3000), GO, 1001)
        self.assertIn("\nboth 1 1\n", text)
        self.is_true(check(text))

    def test_count_without_levels(self):
        text = certify(count(), WISH, GO, 0)
        self.assertEqual(text.split("\n")[10:], ["bounds rounds go 0 6 0", "0 x - 0 x - 0", "0 x - 1 x - 0", "2 x - 1 x - 3",
                                                "2 x - 2 x - 0", "2 x - 3 x - 3", "2 x - 4 x - 3"])

    def test_errors_in_order(self):
        named = Program([("x", 0, 0)], (HERE,), parameters=[("p", 0, 1)])
        long = Program([("x", 0, 0)], (("call", "f"),) * 40, procedures=[("f", (HERE,) * 40)])
        many = chain(24)
        for value in odd_objects() + [named]:
            self.fails(InvalidProgram, value, certify, value, None, None, None)
        self.assertEqual(self.failing(TooMany, certify, long, None, None, None).limit, 150)
        for value in odd_objects() + [("there", "x", None, 0)]:
            self.fails(InvalidCondition, value, certify, many, value, None, None)
        # Heights exist for the place 0 in each of these cases.
        for value in odd_objects() + [("rounds", "gone")]:
            self.fails(InvalidSize, value, certify, many, (0, "x", None, 0), value, None)
            self.fails(InvalidSize, value, certify, many, ("here", "x", None, 0), value, None)
        self.assertEqual(self.failing(TooMany, certify, many, ("here", "x", None, 0), ("rounds", None), None).limit, 24)
        held = chain(24, gain=0)
        self.assertEqual(self.failing(TooMany, certify, held, ("here", "x", None, 0), ("rounds", None), None).limit, 24)
        for value in odd_numbers() + [-1]:
            for wish in [(0, "x", None, 0), ("here", "x", None, 0), ("here", "y", None, 5)]:
                self.fails(InvalidNumber, value, certify, count(), wish, GO, value)
        text = certify(most=1, size=GO, condition=WISH, program=count())
        self.is_true(check(text=text))


def texts():
    """A certificate of each kind."""
    program = count()
    inside = Program([("x", 0, 0)], (("loop", "go", (("loop", "in", (("set", "x", (("x", 1),)),)),)),))
    return [certify(program, ("here", "y", None, 5), GO, 3), certify(program, WISH, GO, 3), certify(program, WISH, GO, 4),
            certify(program, ("here", "x", None, 10 ** 20), GO, FAR), certify(program, (0, "y", None, 4), STEPS, 0),
            certify(program, WISH, GO, 0), certify(inside, (1, "x", None, 3), GO, 0)]


class Check(Case):

    def wrong_at(self, line, lines):
        """Looks whether the text with these lines is refused with this line."""
        text = "\n".join(lines)
        self.assertEqual(self.failing(ParseError, check, text).line, line, text)

    def told(self, lines):
        """What check says of these lines: a bool, or the line of the error, or the error."""
        try:
            return check("\n".join(lines))
        except ParseError as error:
            return error.line
        except (SafeError, TooMany) as error:
            return type(error)

    def test_accepted(self):
        for text in texts():
            self.is_true(check(text))

    def test_lines_left_out(self):
        for text in texts():
            lines = text.split("\n")
            for at in range(len(lines)):
                found = self.told(lines[:at] + lines[at + 1:])
                self.assertIsNot(found, True, (at, text))
                if at > 9:
                    # One line is missing at the end, or the first one of a level stands too early.
                    self.assertIn(type(found), (int, bool))
            self.wrong_at(len(lines) - 1, lines[:-1])
            for at in range(10, len(lines)):
                self.wrong_at(at, lines[:at])
            for at in range(1, 10):
                self.wrong_at(at, lines[:at])

    def test_lines_doubled(self):
        for text in texts():
            lines = text.split("\n")
            for at in range(len(lines)):
                found = self.told(lines[:at] + [lines[at]] + lines[at:])
                self.assertIsNot(found, True, (at, text))
                if at > 10 and not lines[at].startswith(("both", "walk", "level")):
                    self.assertEqual(found, at + 1)
            self.wrong_at(len(lines), lines + [""])
            self.wrong_at(len(lines), lines + [lines[-1]])
            self.wrong_at(len(lines), lines + ["condition here x - 9", "heights 0"])

    def test_words(self):
        for text in texts():
            lines = text.split("\n")
            for at, line in enumerate(lines):
                words = line.split(" ")
                wrong = [line + " ", " " + line, line.replace(" ", "  ", 1), line + "\t", line.upper(), line + " 1",
                         line + " x", " ".join(words[:-1]), "", line + " -", line.replace(" ", "\t"), "x" + line]
                for other in wrong:
                    if other in (line, "main", "end") or (words[0] == "walk" and other == " ".join(words[:-1])
                                                          and len(words) > 4):
                        continue
                    if words[0] == "set" and other == line + " 1" or words[0] == "set" and other == line + " x":
                        continue
                    self.wrong_at(at, lines[:at] + [other] + lines[at + 1:])

    def test_first_of_several_wrong_lines(self):
        chance = random.Random(12)
        words = ["", "x", "01", "-1", "endless", "1 2", "0 y -", "0 y - 5", "both 0 0", "walk 0 x -", "level 3", "heights 1",
                 "0 x - 0 x - 0", "2 x - 1 x - 3", "2 x - 1 x - x", "X x - 5", "0 x - 5 5"]
        seen = {}
        for text in texts() * 12:
            lines = text.split("\n")
            for _ in range(10):
                bent = list(lines)
                for _ in range(chance.choice([2, 2, 3])):
                    at = chance.randrange(10, len(bent))
                    other = chance.choice([chance.choice(words), bent[chance.randrange(10, len(bent))]])
                    bent[at:at + chance.choice([0, 1, 1])] = [other]
                found = self.told(bent)
                if type(found) is int:
                    # Up to there all lines are right, and this one is wrong whatever follows.
                    seen[found] = True
                    before = self.told(bent[:found])
                    self.assertTrue(before == found or type(before) is not int, bent)
                    self.assertEqual(self.told(bent[:found + 1]), found)
        self.assertGreater(len(seen), 15)

    def test_integers(self):
        for text in texts():
            lines = text.split("\n")
            for at, line in enumerate(lines):
                if at in range(1, 9):
                    continue
                words = line.split(" ")
                for place, word in enumerate(words):
                    signed = (words[0] in ("condition",) and place == 4) or (
                        place == len(words) - 1 and words[0].isdigit() and word != "endless")
                    if not word.lstrip("-").isdigit():
                        continue
                    for other in ["+1", "01", "-0", "-01", "1.0", "1_0", "0x1", "", "--1", "1" * 81, "-" + "1" * 81, "x1"]:
                        self.wrong_at(at, lines[:at] + [" ".join(words[:place] + [other] + words[place + 1:])] + lines[at + 1:])
                    other = lines[:at] + [" ".join(words[:place] + ["-1"] + words[place + 1:])] + lines[at + 1:]
                    if signed:
                        self.assertIsInstance(self.told(other), bool)
                    else:
                        self.wrong_at(at, other)

    def test_eighty_digits(self):
        text = texts()[0]
        lines = text.split("\n")
        # The greatest heights are refused by the condition alone.
        for digits, word in [(81, "-" + "9" * 80), (81, "9" * 80)]:
            self.assertIs(self.told(lines[:11] + ["0 y - " + word] + lines[12:]), False)
            self.assertIs(self.told(lines[:11] + [word.lstrip("-") + " y - 5"] + lines[12:]), False)
        self.assertIs(self.told(lines[:9] + ["condition here y - " + "9" * 80] + lines[10:]), InvalidCondition)
        self.assertIs(self.told(lines[:9] + ["condition " + "9" * 80 + " y - 5"] + lines[10:]), InvalidCondition)
        lines = texts()[2].split("\n")
        first = lines[10].split(" ")
        self.assertIs(self.told(lines[:10] + [" ".join(first[:3] + ["9" * 80] + first[4:])] + lines[11:]), True)
        self.wrong_at(10, lines[:10] + [" ".join(first[:3] + ["9" * 81] + first[4:])] + lines[11:])
        lines = texts()[1].split("\n")
        first = lines[10].split(" ")
        self.assertIs(self.told(lines[:10] + [" ".join(first[:3] + ["9" * 80] + first[4:])] + lines[11:]), InvalidNumber)

    def test_great_numbers_of_lines(self):
        for text in texts():
            lines = text.split("\n")
            self.wrong_at(9, ["program " + "9" * 80] + lines[1:])
            self.wrong_at(9, ["program 9"] + lines[1:])
            self.wrong_at(8, ["program 7"] + lines[1:])
            self.wrong_at(1, ["program 0"] + lines[1:])
        lines = texts()[0].split("\n")
        for word in ["6", "9" * 80]:
            self.wrong_at(len(lines), lines[:10] + ["heights " + word] + lines[11:])
        self.wrong_at(15, lines[:10] + ["heights 4"] + lines[11:])
        self.wrong_at(11, lines[:10] + ["heights 0"] + lines[11:])
        self.assertIs(self.told(lines[:10] + ["heights 0"]), False)
        lines = texts()[1].split("\n")
        self.assertEqual(lines[10], "bounds rounds go 3 6 2")
        self.wrong_at(17, lines[:10] + ["bounds rounds go 3 7 2"] + lines[11:])
        self.wrong_at(16, lines[:10] + ["bounds rounds go 3 5 2"] + lines[11:])
        self.wrong_at(len(lines), lines[:10] + ["bounds rounds go 3 6 3"] + lines[11:])
        self.wrong_at(len(lines), lines[:10] + ["bounds rounds go 3 6 " + "9" * 80] + lines[11:])
        self.wrong_at(21, lines[:10] + ["bounds rounds go 3 6 1"] + lines[11:])
        lines = texts()[2].split("\n")
        many = len(lines) - 11
        self.wrong_at(len(lines), lines[:10] + [f"breaking rounds go 4 {many + 1}"] + lines[11:])
        self.wrong_at(len(lines) - 1, lines[:10] + [f"breaking rounds go 4 {many - 1}"] + lines[11:])
        self.assertIs(self.told(lines[:10] + ["breaking rounds go 4 0"]), False)

    def test_lines_of_nodes_in_any_order(self):
        chance = random.Random(3)
        for text in [texts()[0], texts()[1], texts()[5], texts()[6]]:
            lines = text.split("\n")
            blocks, rest = [], []
            for line in lines:
                if line[0].isdigit():
                    rest.append(line)
                else:
                    blocks.append(rest)
                    blocks.append([line])
                    rest = []
            blocks.append(rest)
            for _ in range(5):
                mixed = [chance.sample(block, len(block)) for block in blocks]
                self.assertIs(self.told([line for block in mixed for line in block]), True)
        lines = texts()[1].split("\n")
        self.wrong_at(12, lines[:12] + [lines[11][:-1] + "9"] + lines[13:])
        self.wrong_at(15, lines[:15] + [lines[13]] + lines[16:])
        # The same nodes may stand in different levels.
        self.assertEqual(lines[18], lines[22])

    def test_other_orders(self):
        for text in texts():
            lines = text.split("\n")
            for one, other in [(9, 10), (0, 1), (0, 9), (8, 9)]:
                swapped = list(lines)
                swapped[one], swapped[other] = lines[other], lines[one]
                self.assertEqual(type(self.told(swapped)), int)
        lines = texts()[3].split("\n")
        swapped = lines[:-2] + [lines[-1], lines[-2]]
        self.assertIsNot(self.told(swapped), True)

    def test_what_is_not_accepted(self):
        for at, wrong in [(11, "0 y - 4"), (11, "0 x - 5"), (11, "0 y x 5"), (11, "0 - y 5"), (11, "9 y - 5"), (11, "0 y y 5"),
                          (9, "condition here y - 4"), (9, "condition here x - 5"), (9, "condition 5 y - 5")]:
            lines = texts()[0].split("\n")
            self.assertIs(self.told(lines[:at] + [wrong] + lines[at + 1:]), False)
        for at, wrong in [(11, "0 x - 0 x - -1"), (13, "2 x - 1 x - 2"), (11, "0 x - 9 x - 0"), (11, "9 x - 0 x - 0"),
                          (16, "2 x - 4 x - endless"), (10, "bounds rounds - 4 6 2"), (10, "bounds rounds go 1 6 2")]:
            lines = texts()[1].split("\n")
            self.assertIs(self.told(lines[:at] + [wrong] + lines[at + 1:]), False, wrong)
        for at, wrong in [(9, "condition here x - 12"), (10, "breaking rounds go 3 {}"), (11, "walk 0 x - 99:x:-"), (-1, "both 99 0"),
                          (11, "walk 9 x -"), (11, "walk 0 x - 0:x:x")]:
            lines = texts()[2].split("\n")
            lines[at] = wrong.format(len(lines) - 11)
            self.assertIs(self.told(lines), False, wrong)
        # The same papers are right for a weaker condition, and for greater bounds.
        lines = texts()[0].split("\n")
        self.assertIs(self.told(lines[:9] + ["condition here y - 6"] + lines[10:]), True)
        lines = texts()[2].split("\n")
        self.assertIs(self.told(lines[:9] + ["condition here x - -9"] + lines[10:]), True)
        self.assertIs(self.told(lines[:10] + [lines[10].replace(" 4 ", " 5 ")] + lines[11:]), True)

    def test_forms(self):
        lines = texts()[1].split("\n")
        for at, wrong in [(0, "program"), (0, "programs 7"), (0, "program 7 7"), (0, "program x"),
                          (9, "condition - x - 9"), (9, "condition here X - 9"), (9, "condition here x - endless"),
                          (9, "condition -1 x - 9"), (9, "condition here x 9"), (9, "condition ninechars x - 9"),
                          (10, "bounds round go 3 6 2"), (10, "bounds rounds GO 3 6 2"), (10, "bounds rounds go ever 6 2"),
                          (10, "bounds rounds go -1 6 2"), (10, "bounds rounds go 3 6"), (10, "heights 6 2"), (10, "height 6"),
                          (10, "breaking rounds go 3 6 2"), (10, "level 6"), (10, "both 0 0"), (11, "0 x - 0 x 0"),
                          (11, "0 x - 0 x - Endless"), (11, "0 x - 0 x - -"), (11, "here x - 0 x - 0"), (11, "- x - 0 x - 0"),
                          (17, "levels 3"), (17, "level"), (17, "level x"), (17, "level 3 3"), (17, lines[18])]:
            self.wrong_at(at, lines[:at] + [wrong] + lines[at + 1:])
        lines = texts()[2].split("\n")
        for wrong in ["walk", "walk 0 x", "walk 0 x - 0:x", "walk 0 x - 0:x:-:", "walk 0 x - 0;x;-", "walk 0 x - -1:x:-",
                      "walk 0 x - x:x:-", "walk 0 x - 0:X:-", "walk 0 x - ::", "both 0", "both 0 0 0", "both -1 0", "both 0 x",
                      "walks 0 x -", "both - -", "walk - x -", "walk 0 x - 0:x:- ", "walk 0 x -  0:x:-", "0 x - 0"]:
            self.wrong_at(11, lines[:11] + [wrong] + lines[12:])

    def test_no_text(self):
        self.wrong_at(0, [""])
        for value in odd_objects() + [b"program 1", ["program 1"], 0]:
            if type(value) is not str:
                self.assertIsNone(self.failing(ParseError, check, value).line)
        self.wrong_at(1, ["program 8"])

    def test_lines_of_the_program(self):
        lines = texts()[0].split("\n")
        chance = random.Random(8)
        words = ["end", "main", "loop go", "set x x+3", "place here", "var x 0 0", "or", "either", "", "set x x+0", "var x 0",
                 "guard g x 5 1", "read rows x", "set x", "input x 01 2", "x", "param p 0 1", "place " + "x" * 9]
        for _ in range(300):
            at, other = chance.randrange(1, 8), chance.choice(words)
            bent = lines[1:at] + [other] + lines[at + chance.choice([0, 1, 1, 1]):8]
            try:
                parse_program("\n".join(bent))
                expected = None
            except ParseError as error:
                expected = error.line + 1
            except SafeError:
                expected = InvalidProgram
            found = self.told([f"program {len(bent)}"] + bent + lines[9:])
            if expected is None:
                self.assertIn(found, (True, False, InvalidCondition))
            else:
                self.assertEqual(found, expected, bent)

    def test_errors_behind_the_lines(self):
        lines = texts()[1].split("\n")

        def bent(at, *other):
            return "\n".join(lines[:at] + list(other) + lines[at + 1:])

        doubled = lines[:2] + lines[1:]
        doubled[0] = "program 9"
        self.assertIs(type(self.failing(InvalidProgram, check, "\n".join(doubled)).value), str)
        doubled[10] = "condition gone x - 9"
        self.failing(InvalidProgram, check, "\n".join(doubled))
        doubled[10] = "condition gone x - x"
        self.wrong_at(10, doubled)
        named = ["program 9", lines[1], lines[2], "param p 0 1"] + lines[3:]
        self.assertEqual(self.failing(InvalidProgram, check, "\n".join(named)).value,
                         parse_program("\n".join(named[1:10])))
        named[10] = "condition gone x - 9"
        self.failing(InvalidProgram, check, "\n".join(named))
        many = ["var x 0 0", "proc f"] + ["place here"] * 39 + ["end", "main"] + ["call f"] * 4 + ["end"]
        text = "\n".join([f"program {len(many)}"] + many + ["condition gone x - 9"] + lines[10:])
        self.assertEqual(self.failing(TooMany, check, text).limit, 150)
        for line, value in [("condition gone x - 9", ("gone", "x", None, 9)), ("condition here z - 9", ("here", "z", None, 9)),
                            ("condition 6 x - 9", (6, "x", None, 9)), ("condition here - - 9", ("here", None, None, 9)),
                            ("condition here x x 9", ("here", "x", "x", 9)),
                            (f"condition here x - {FAR + 1}", ("here", "x", None, FAR + 1))]:
            self.fails_like(InvalidCondition, value, check, bent(9, line))
        for line, value in [("rounds gone", ("rounds", "gone")), ("steps go", ("steps", "go")), ("calls go", ("calls", "go"))]:
            self.fails_like(InvalidSize, value, check, bent(10, f"bounds {line} 3 6 2"))
            other = texts()[2].split("\n")
            other[10] = other[10].replace("rounds go", line)
            self.fails_like(InvalidSize, value, check, "\n".join(other))
            other[9] = "condition here z - 9"
            self.failing(InvalidCondition, check, "\n".join(other))
        self.fails_like(InvalidNumber, FAR + 1, check, bent(10, f"bounds rounds go {FAR + 1} 6 2"))
        self.fails_like(InvalidSize, ("rounds", "gone"), check, bent(10, f"bounds rounds gone {FAR + 1} 6 2"))
        program = format_program(chain(24)).split("\n")
        text = "\n".join([f"program {len(program)}"] + program + ["condition here x - 9", f"bounds rounds - {FAR + 1} 0 0"])
        self.assertEqual(self.failing(TooMany, check, text).limit, 24)
        self.is_false(check(text.replace(f"bounds rounds - {FAR + 1} 0 0", "breaking rounds - 5 0")))
        self.is_false(check(text.replace(f"bounds rounds - {FAR + 1} 0 0", "heights 0")))

    def test_long(self):
        program = chain(20, variables=("x", "y"), gain=10 ** 29)
        text = certify(program, ("here", "x", None, FAR), ("rounds", None), 9)
        self.assertGreater(len(text), 20000)
        self.is_true(check(text))
        self.is_false(check(text.replace("condition here x - " + str(FAR), "condition here x - 1")))
        self.assertEqual(limit(program, ("here", "x", None, FAR), ("rounds", None)).size, 10)


if __name__ == "__main__":
    unittest.main()
