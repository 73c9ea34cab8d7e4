"""What the document promises over the whole program."""

import random
import unittest

from safeupto.certificates import certify, check
from safeupto.conditions import first_break, size_of
from safeupto.console import Console
from safeupto.errors import TooMany
from safeupto.formats import format_program, parse_program
from safeupto.formulas import formula
from safeupto.limits import as_run, breaking, limit
from safeupto.papers import heights
from safeupto.starts import Starts
from safeupto.values import greatest
from tests.growing import cases, with_most
from tests.helpers import Case

FAR = 10 ** 30


class Whole(Case):

    def test_one_limit_told_in_many_ways(self):
        seen = {}
        for program, condition, size in cases(range(95000, 95250)):
            for most in [-4, 0, 7, 1000]:
                wish = with_most(condition, most)
                try:
                    found = limit(program, wish, size)
                    growing, starts = formula(program, wish, size), Starts(program, wish, size)
                except TooMany:
                    continue
                seen[found.size and min(found.size, 1)] = seen.get(found.size and min(found.size, 1), 0) + 1
                read = parse_program(format_program(program))
                self.assertEqual(read, program)
                self.assertEqual(limit(read, wish, size), found)
                self.assertEqual(growing(most), found)
                ranges = {name: (low, high) for name, low, high in program.variables}
                self.assertEqual(starts(ranges, most), found)
                self.assertEqual(heights(program, wish) is None, found.size is not None)
                self.told_by_texts(program, wish, size, found)
                if found.size is not None:
                    self.beyond(program, wish, size, found, growing)
        self.assertEqual(sorted(seen, key=str), [-1, 0, 1, None])

    def told_by_texts(self, program, wish, size, found):
        console = Console()
        self.assertEqual(console.run("load " + format_program(program).replace("\n", "; ")), "ok")
        self.assertEqual(console.run(f"size {size[0]} {size[1] or '-'}"), "ok")
        place, plus, minus, most = wish
        words = f"{place} {plus or '-'} {minus or '-'}"
        self.assertEqual(console.run(f"limit {words} {most}"), "ever" if found.size is None else str(found.size))
        ends = [0, 3, FAR] if found.size is None else [max(0, found.size), found.size + 1]
        for count in ends:
            text = certify(program, wish, size, count)
            self.is_true(check(text))
            kind = text.split("\ncondition ")[1].split("\n")[1].split(" ")[0]
            self.assertEqual(kind, "heights" if found.size is None else "bounds" if count in found else "breaking")
            value = greatest(program, wish, size, count)
            self.assertEqual(console.run(f"greatest {words} {count}"), "none" if value is None else str(value))

    def beyond(self, program, wish, size, found, growing):
        """The greatest value is too great just beyond the limit, and a run shows it."""
        for count in [found.size - 1, found.size, found.size + 1]:
            if count >= 0:
                value = greatest(program, wish, size, count)
                self.assertEqual(value, growing.greatest(count))
                if count in found:
                    self.assertTrue(value is None or value <= wish[3])
                else:
                    self.assertTrue(value == "endless" or value > wish[3])
        rules = breaking(program, wish, size)
        try:
            run = as_run(program, wish, rules)
        except TooMany:
            return
        self.assertIsNotNone(first_break(run, (run.last.point, *wish[1:])))
        self.assertLessEqual(size_of(run, size), found.size + 1)

    def test_asked_in_another_order(self):
        """A program that was asked much answers as one that was asked once."""
        for program, condition, size in cases(range(96000, 96060)):
            other = parse_program(format_program(program))
            chance = random.Random(str(condition))
            sizes = [("steps", None), ("rounds", None), ("calls", None), size]
            wishes = [with_most(condition, most) for most in (-3, 0, 9)]
            try:
                expected = {(wish, one): (limit(parse_program(format_program(program)), wish, one).size,
                                          [greatest(parse_program(format_program(program)), wish, one, count)
                                           for count in range(3)]) for wish in wishes for one in sizes}
            except TooMany:
                continue
            keys = list(expected) * 2
            chance.shuffle(keys)
            for wish, one in keys:
                self.assertEqual((limit(other, wish, one).size, [greatest(other, wish, one, count) for count in range(3)]),
                                 expected[wish, one])
            self.assertEqual(other, program)


if __name__ == "__main__":
    unittest.main()
