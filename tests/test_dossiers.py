"""Dossiers, written and judged."""

import random
import unittest

from safeupto.certificates import certify
from safeupto.dossiers import dossier, judge
from safeupto.errors import InvalidCondition, InvalidNumber, InvalidProgram, InvalidSize, ParseError, SafeError, TooMany
from safeupto.formats import format_program, parse_program
from safeupto.limits import Limit
from safeupto.papers import bounds
from safeupto.programs import Program
from safeupto.wishes import safe_up_to, wished
from safeupto.wording import bounds_lines
from tests.growing import chain, sizes_of
from tests.guarding import guarded
from tests.helpers import Case, odd_objects

FAR = 10 ** 30
GO = ("rounds", "go")
HERE = ("place", "here")


def count(bits=4, gain=1):
    return Program([("x", 0, 0)], (("loop", "go", (("set", "x", (("x", gain),)),)),), widths=[("x", bits)])


def held():
    return Program([("x", 0, 1)], (("loop", "go", (("set", "x", (("x", 0),)),)),), widths=[("x", 2)])


def broken():
    return Program([("x", 0, 9)], (("loop", "go", (("set", "x", (("x", 0),)),)),), widths=[("x", 2)])


def nothing():
    return Program([("x", 0, 0)], (HERE,))


def blocks_of(text):
    """The lines ahead of the papers, and the lists of the lines of the papers."""
    lines = text.split("\n")
    begins = [at for at, line in enumerate(lines) if line.startswith("condition")] + [len(lines)]
    return lines[:begins[0]], [lines[one:other] for one, other in zip(begins, begins[1:])]


def text_of(head, blocks, many=None, **words):
    """The text of these lines; the first line tells how many papers there are."""
    first = head[0].split(" ")
    first[4] = str(len(blocks) if many is None else many)
    for at, word in words.items():
        first[int(at[1:])] = word
    return "\n".join([" ".join(first), *head[1:], *[line for block in blocks for line in block]])


class Dossier(Case):

    def test_example(self):
        text = dossier(count(), GO)
        self.assertEqual(text.split("\n")[:9], ["dossier rounds go 7 5", "program 7", "var x 0 0", "width x 4", "main", "loop go",
                                                "set x x+1", "end", "end"])
        self.assertEqual(judge(text).size, 7)
        self.assertIs(type(judge(text)), Limit)
        self.assertEqual(judge(text=dossier(size=GO, program=count())), Limit(7))

    def test_each_limit(self):
        for program, size, first in [(held(), GO, "dossier rounds go ever 4"), (broken(), GO, "dossier rounds go -1 1"),
                                     (nothing(), ("steps", None), "dossier steps - ever 0"),
                                     (count(), ("calls", None), "dossier calls - -1 1"),
                                     (count(64), ("rounds", None), f"dossier rounds - {2 ** 63 - 1} 5")]:
            text = dossier(program, size)
            self.assertEqual(text.split("\n")[0], first)
            self.assertEqual(judge(text), safe_up_to(program, size))

    def test_made_up(self):
        seen = {}
        for seed, program in guarded(range(90000, 90160)):
            size = random.Random(seed).choice(sizes_of(program))
            try:
                expected = safe_up_to(program, size)
            except TooMany as error:
                self.assertEqual(self.failing(TooMany, dossier, program, size).limit, error.limit)
                continue
            text = dossier(program, size)
            self.assertEqual(judge(text), expected)
            head, blocks = blocks_of(text)
            self.assertEqual(head[1:], [f"program {len(head) - 2}"] + format_program(program).split("\n"))
            self.assertEqual(int(head[0].split(" ")[4]), len(blocks))
            kinds = [block[1].split(" ")[0] for block in blocks]
            wishes = [] if expected.size == -1 else wished(program)
            self.assertEqual(len(blocks), len(wishes) + (expected.size is not None))
            self.assertEqual([block[0] for block in blocks[:len(wishes)]],
                             [f"condition {point} {plus or '-'} {minus or '-'} {most}" for point, plus, minus, most in wishes])
            self.assertEqual(kinds.count("breaking"), int(expected.size is not None))
            for kind in kinds + [str(expected.size and min(expected.size, 1))]:
                seen[kind] = seen.get(kind, 0) + 1
        self.assertGreater(min(seen.values()), 2)
        self.assertEqual(len(seen), 7)

    def test_errors_in_order(self):
        named = Program([("x", 0, 0)], (), parameters=[("p", 0, 1)])
        long = Program([("x", 0, 0)], (("call", "f"),) * 40, procedures=[("f", (HERE,) * 40)])
        for value in odd_objects() + [named]:
            self.fails(InvalidProgram, value, dossier, value, None)
        self.assertEqual(self.failing(TooMany, dossier, long, None).limit, 150)
        base = chain(24)
        crowded = Program(base.variables, base.main, procedures=base.procedures, widths=[("x", 5)])
        for value in odd_objects() + [("rounds", "gone")]:
            self.fails(InvalidSize, value, dossier, crowded, value)
            self.fails(InvalidSize, value, dossier, nothing(), value)
        self.assertEqual(self.failing(TooMany, dossier, crowded, ("rounds", None)).limit, 24)

    def test_limits_that_are_too_great(self):
        for low, greater in [(0, 0), (-1, 1), (-FAR, FAR)]:
            rows = (("loop", "go", (("set", "x", (("x", 1),)), ("read", "rows", "x"))),)
            program = Program([("x", low, low), ("y", 0, 0)], rows + (("set", "y", (("y", 0), (None, 0))),),
                              arrays=[("rows", FAR)])
            self.assertEqual(safe_up_to(program, GO).size, FAR - 1 + greater)
            if FAR - 1 + greater > FAR:
                self.assertEqual(self.failing(TooMany, dossier, program, GO).limit, FAR)
            else:
                self.assertEqual(judge(dossier(program, GO)).size, FAR - 1 + greater)


class Judged(Case):

    def told(self, text):
        """What judge says: the size of a limit in a list, None, or the line of the error, or the error."""
        try:
            found = judge(text)
        except ParseError as error:
            return error.line
        except (SafeError, TooMany) as error:
            return type(error)
        return None if found is None else [found.size]

    def test_another_limit(self):
        for program in [count(), held(), broken(), nothing()]:
            head, blocks = blocks_of(dossier(program, GO if program != nothing() else ("steps", None)))
            right = head[0].split(" ")[3]
            for word in ["-1", "0", "6", "7", "8", "ever", "9" * 80]:
                self.assertEqual(self.told(text_of(head, blocks, _3=word)) is not None, word == right, (right, word))

    def test_another_size(self):
        program = Program([("x", 0, 0)], (("loop", "go", (("set", "x", (("x", 1),)),)), ("loop", "to", ())), widths=[("x", 4)],
                          procedures=[("f", ())])
        head, blocks = blocks_of(dossier(program, GO))
        self.assertEqual(self.told(text_of(head, blocks)), [7])
        for kind, name in [("rounds", "-"), ("rounds", "to"), ("steps", "-"), ("calls", "f"), ("calls", "-")]:
            self.assertIsNone(self.told(text_of(head, blocks, _1=kind, _2=name)))
        head, blocks = blocks_of(dossier(held(), GO))
        # Heights hold for each size.
        self.assertEqual(self.told(text_of(head, blocks, _1="steps", _2="-")), [None])

    def test_counts(self):
        head, blocks = blocks_of(dossier(count(), GO))
        text = text_of(head, blocks)
        many = len(text.split("\n"))
        self.assertEqual(self.told(text_of(head, blocks, 6)), many)
        self.assertEqual(self.told(text_of(head, blocks, "9" * 80)), many)
        self.assertEqual(self.told(text_of(head, blocks, 4)), many - len(blocks[-1]))
        self.assertEqual(self.told(text_of(head, blocks, 0)), len(head))
        self.assertIsNone(self.told(text_of(head, [])))
        self.assertIsNone(self.told(text_of(head, [], _3="ever")))

    def test_papers_left_out_exchanged_and_put_in(self):
        for program in [count(), held(), broken()]:
            head, blocks = blocks_of(dossier(program, GO))
            for at in range(len(blocks)):
                self.assertIsNone(self.told(text_of(head, blocks[:at] + blocks[at + 1:])))
                for other in range(len(blocks) + 1):
                    self.assertIsNone(self.told(text_of(head, blocks[:other] + [blocks[at]] + blocks[other:])))
                for other in range(at):
                    swapped = list(blocks)
                    swapped[at], swapped[other] = blocks[other], blocks[at]
                    self.assertIsNone(self.told(text_of(head, swapped)))
        head, blocks = blocks_of(dossier(broken(), GO))
        _, others = blocks_of(dossier(held(), GO))
        self.assertIsNone(self.told(text_of(head, others[:1] + blocks)))

    def test_one_number_put_otherwise(self):
        kept = 0
        for program in [count(), held(), broken(), count(3, 2)]:
            text = dossier(program, GO)
            limit = judge(text)
            lines = text.split("\n")
            for at, line in enumerate(lines):
                words = line.split(" ")
                for place, word in enumerate(words):
                    if word.lstrip("-").isdigit():
                        for more in [1, -1, 5]:
                            other = words[:place] + [str(int(word) + more)] + words[place + 1:]
                            bent = "\n".join(lines[:at] + [" ".join(other)] + lines[at + 1:])
                            found = self.told(bent)
                            if type(found) is list:
                                # Some numbers may be greater: those of papers, and of what no limit depends on.
                                kept += 1
                                self.assertEqual(found, [self.real(bent)], bent)
                            self.assertFalse(found == [limit.size] and at == 0)
        self.assertGreater(kept, 10)

    def real(self, text):
        """The limit of the program in a dossier."""
        head, _ = blocks_of(text)
        _, kind, name, _, _ = head[0].split(" ")
        program = parse_program("\n".join(head[2:]))
        return safe_up_to(program, (kind, None if name == "-" else name)).size

    def test_wrong_papers(self):
        head, blocks = blocks_of(dossier(count(), GO))
        short = blocks[-1]
        self.assertEqual(short[0], "condition 3 x - 7")
        self.assertTrue(short[1].startswith("breaking rounds go 8 "))
        for other in [["condition 3 x - 6"] + short[1:], ["condition 2 x - 7"] + short[1:],
                      short[:1] + [short[1].replace(" 8 ", " 9 ")] + short[2:], short[:1] + [short[1].replace(" 8 ", " 7 ")] + short[2:],
                      short[:1] + [short[1].replace("rounds go", "rounds -")] + short[2:]]:
            self.assertIsNone(self.told(text_of(head, blocks[:-1] + [other])), other[:2])
        rows = blocks[3]
        self.assertTrue(rows[1].startswith("bounds rounds go 7 "))
        for other in [rows[:1] + [rows[1].replace("rounds go", "rounds -")] + rows[2:],
                      rows[:1] + [rows[1].replace(" 7 ", " 6 ")] + rows[2:], short]:
            self.assertIsNone(self.told(text_of(head, blocks[:3] + [other] + blocks[4:])), other[:2])
        # Any wished condition may be the broken one.
        self.assertIsNone(self.told(text_of(head, blocks[:-1])))
        self.assertIsNone(self.told(text_of(head, blocks[:-1] + [blocks[0]])))

    def test_heights_and_bounds(self):
        head, blocks = blocks_of(dossier(count(), GO))
        self.assertEqual([block[1].split(" ")[0] for block in blocks], ["heights", "heights", "heights", "bounds", "breaking"])
        # Where the limit is a count, bounds may stand for what holds for ever, too; where it is for ever they may not.
        rows = [block[:1] + bounds_lines(GO, 7, bounds(count(), wish, GO, 7)) for block, wish in zip(blocks, wished(count()))]
        for at in range(4):
            self.assertEqual(self.told(text_of(head, blocks[:at] + [rows[at]] + blocks[at + 1:])), [7])
        self.assertEqual(self.told(text_of(head, rows + blocks[4:])), [7])
        head, blocks = blocks_of(dossier(held(), GO))
        for most in [0, 7]:
            rows = [block[:1] + bounds_lines(GO, most, bounds(held(), wish, GO, most))
                    for block, wish in zip(blocks, wished(held()))]
            self.assertIsNone(self.told(text_of(head, [rows[0]] + blocks[1:])))
            self.assertIsNone(self.told(text_of(head, [rows[0]] + blocks[1:], _3=str(most))))
        self.assertEqual(certify(held(), wished(held())[0], GO, 0).split("\n")[-len(blocks[0]):], blocks[0])

    def test_lines(self):
        text = dossier(count(), GO)
        lines = text.split("\n")
        for wrong in ["dossier rounds go 7", "dossier rounds go 7 5 1", "dossiers rounds go 7 5", "dossier round go 7 5",
                      "dossier rounds Go 7 5", "dossier rounds go -2 5", "dossier rounds go -0 5", "dossier rounds go 07 5",
                      "dossier rounds go Ever 5", "dossier rounds go never 5", "dossier rounds go 7 -1", "dossier rounds go 7 x",
                      "dossier rounds go 7 05", "dossier rounds go  7 5", "dossier rounds go 7 5 ", " dossier rounds go 7 5", "",
                      "dossier rounds go - 5", "dossier rounds go " + "1" * 81 + " 5", "dossier rounds go -1" + "0" * 5 + " 5",
                      "dossier rounds go 7 " + "1" * 81, "program 6"]:
            self.assertEqual(self.told("\n".join([wrong] + lines[1:])), 0, wrong)
        for at in range(1, len(lines)):
            self.assertEqual(self.told("\n".join(lines[:at])), at)
            self.assertEqual(self.told("\n".join(lines[:at] + [lines[at] + " "] + lines[at + 1:])), at)
        self.assertEqual(self.told(text + "\n"), len(lines))
        self.assertEqual(self.told("\n".join(lines[:1] + ["program 8"] + lines[2:])), 9)
        self.assertEqual(self.told("\n".join(lines[:1] + ["program 6"] + lines[2:])), 8)
        self.assertEqual(self.told(""), 0)
        for value in odd_objects() + [b"", 0]:
            if type(value) is not str:
                self.assertIsNone(self.failing(ParseError, judge, value).line)

    def test_errors_behind_the_lines(self):
        text = dossier(count(), GO)
        head, blocks = blocks_of(text)
        wrong = [["condition gone x - 7"] + blocks[0][1:]] + blocks[1:]

        def with_program(*lines):
            return [head[0], f"program {len(lines)}", *lines]

        doubled = with_program("var x 0 0", *head[2:])
        self.failing(InvalidProgram, judge, text_of(doubled, wrong))
        named = with_program(head[2], "param p 0 1", *head[3:])
        self.assertEqual(self.failing(InvalidProgram, judge, text_of(named, wrong, _1="steps")).value.parameters, (("p", 0, 1),))
        long = with_program("var x 0 0", "proc f", *["place here"] * 39, "end", "main", *["call f"] * 4, "end")
        self.assertEqual(self.failing(TooMany, judge, text_of(long, wrong)).limit, 150)
        for kind, name, size in [("rounds", "gone", ("rounds", "gone")), ("steps", "go", ("steps", "go"))]:
            self.fails_like(InvalidSize, size, judge, text_of(head, wrong, _1=kind, _2=name))
        self.fails_like(InvalidCondition, ("gone", "x", None, 7), judge, text_of(head, wrong))
        # Paper by paper, also where they are not those that are asked for.
        other = blocks[:1] + [[blocks[3][0], blocks[3][1].replace("rounds go", "rounds gone")] + blocks[3][2:]]
        self.fails_like(InvalidSize, ("rounds", "gone"), judge, text_of(head, other + wrong))
        self.fails_like(InvalidCondition, ("gone", "x", None, 7), judge, text_of(head, wrong + other))
        other = blocks[:3] + [[blocks[3][0], blocks[3][1].replace(" 7 ", f" {FAR + 1} ")] + blocks[3][2:]]
        self.fails_like(InvalidNumber, FAR + 1, judge, text_of(head, other + wrong))
        self.fails_like(InvalidNumber, FAR + 1, judge, text_of(head, other, _3="ever"))
        program = format_program(chain(24)).split("\n")
        many = [["condition here x - 9", f"bounds rounds - {FAR + 1} 0 0"]]
        crowded = ["dossier rounds - 5 1", f"program {len(program)}", *program]
        self.assertEqual(self.failing(TooMany, judge, text_of(crowded, many + wrong)).limit, 24)

    def test_long(self):
        rows = (("loop", "a", (("set", "x", (("x", 1),)), ("loop", "b", (("set", "x", (("x", 7),)), ("set", "y", (("x", -3),)))))),) * 1
        program = Program([("x", 0, 0), ("y", 0, 0)], rows + (("set", "x", (("y", 0),)),) * 30, widths=[("x", 64), ("y", 63)])
        text = dossier(program, ("rounds", None))
        self.assertGreater(len(text), 20000)
        self.assertEqual(judge(text), safe_up_to(program, ("rounds", None)))


if __name__ == "__main__":
    unittest.main()
