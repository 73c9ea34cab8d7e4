"""What a program remembers changes no answer: asked twice, in any order, it answers as one that is asked once."""

import copy
import random
import unittest

from safeupto.certificates import certify
from safeupto.dossiers import dossier
from safeupto.errors import SafeError, TooMany
from safeupto.formats import format_program, parse_program
from safeupto.formulas import formula
from safeupto.guards import broken_by, capped_heights, greatest_with, least_guards
from safeupto.limits import as_run, breaking, is_breaking, limit
from safeupto.lines import corners, least_line, line_heights
from safeupto.memory import MOST_KEPT, keep
from safeupto.papers import bounds, heights, is_bounds, is_heights
from safeupto.rates import best_ring, is_rate, rate, rate_paper
from safeupto.staircases import staircase
from safeupto.starts import Starts
from safeupto.summaries import summary
from safeupto.terms import Terms
from safeupto.values import greatest
from safeupto.wishes import first_broken, safe_up_to, wished
from tests.growing import chain, sizes_of
from tests.guarding import guarded
from tests.helpers import Case

FAR = 10 ** 30
PROPERTIES = """variables main procedures parameters arrays widths names loops places guards is_single""".split()


def told(growing):
    return growing.firsts, growing.stairs, growing.endless


def of_starts(found):
    return found.pairs, [told(found.formula(pair)) for pair in found.pairs]


def of_terms(found):
    return found.nodes(), found.begins(), found.ends(), found.steps()


def of_run(program, condition, rules):
    run = as_run(program, condition, rules)
    return run.states[0].numbers, run.choices


# Each takes a program, a condition without minus and a size.
QUESTIONS = [
    lambda *row: greatest(*row, 0), lambda *row: greatest(*row, 1), lambda *row: greatest(*row, 4),
    lambda *row: greatest(*row, 30), lambda *row: greatest(*row, FAR), lambda *row: limit(*row).size,
    lambda *row: breaking(*row), lambda *row: is_breaking(*row, 5, breaking(*row)),
    lambda program, condition, size: of_run(program, condition, breaking(program, condition, size)),
    lambda program, condition, size: heights(program, condition),
    lambda program, condition, size: is_heights(program, condition, heights(program, condition)),
    lambda *row: bounds(*row, 0), lambda *row: bounds(*row, 3), lambda *row: is_bounds(*row, 3, bounds(*row, 3)),
    lambda *row: rate(*row), lambda *row: best_ring(*row), lambda *row: rate_paper(*row),
    lambda *row: is_rate(*row, rate_paper(*row)), lambda *row: least_line(*row, (1, 2)),
    lambda *row: line_heights(*row, (9, 2)), lambda *row: corners(*row), lambda *row: told(formula(*row)),
    lambda *row: of_starts(Starts(*row)), lambda *row: of_terms(Terms(*row)),
    lambda *row: [one.size for one in staircase(*row, ("rounds", None), 2)],
    lambda program, condition, size: summary(program, "main", size, 3), lambda program, condition, size: wished(program),
    lambda program, condition, size: safe_up_to(program, size).size,
    lambda program, condition, size: first_broken(program, size),
    lambda program, condition, size: greatest_with(program, condition, program.guards),
    lambda program, condition, size: broken_by(program, condition, []),
    lambda program, condition, size: capped_heights(program, condition, list(program.guards)),
    lambda program, condition, size: least_guards(program, condition),
    lambda *row: certify(*row, 2), lambda program, condition, size: dossier(program, size),
]


def answer(question, program, condition, size):
    """The answer, or the kind of the error with what it keeps."""
    try:
        return question(program, condition, size)
    except (SafeError, TooMany) as error:
        return type(error), {name: one for name, one in vars(error).items() if name != "value"}


class Memory(Case):

    def test_little_is_kept(self):
        known = {}
        for at in range(3 * MOST_KEPT):
            self.assertEqual(keep(known, at, str(at)), str(at))
            self.assertEqual(known[at], str(at))
            self.assertLessEqual(len(known), MOST_KEPT)

    def rows(self, program, seed):
        chance = random.Random(seed)
        wishes = [("here", name, None, most) for name in program.names[:2] for most in (0, 9)] + [(0, program.names[0], None, 50)]
        sizes = chance.sample(sizes_of(program), 2) + [("rounds", "gone")]
        return [(wish, size) for wish in wishes + [("gone", "x", None, 0)] for size in sizes]

    def test_in_any_order(self):
        for seed, program in guarded(range(97000, 97028), points=25):
            text = format_program(program)
            asked = [(at, wish, size) for wish, size in self.rows(program, seed) for at in range(len(QUESTIONS))]
            chance = random.Random(seed)
            asked = chance.sample(asked, 60)
            once = [answer(QUESTIONS[at], parse_program(text), wish, size) for at, wish, size in asked]
            known = parse_program(text)
            for _ in range(2):
                order = list(range(len(asked)))
                chance.shuffle(order)
                for place in order:
                    at, wish, size = asked[place]
                    self.assertEqual(answer(QUESTIONS[at], known, wish, size), once[place], (at, wish, size, text))

    def test_programs_stay(self):
        for seed, program in guarded(range(98000, 98010), points=25):
            before = [copy.deepcopy(getattr(program, name)) for name in PROPERTIES]
            other = parse_program(format_program(program))
            for wish, size in self.rows(program, seed):
                for question in QUESTIONS:
                    answer(question, program, wish, size)
            self.assertEqual([getattr(program, name) for name in PROPERTIES], before)
            self.assertEqual(program, other)
            self.assertEqual(format_program(program), format_program(other))
            # What is made from it remembers nothing of it.
            made = program.replaced("main", (("set", program.names[0], ((None, 77),)), ("place", "here")))
            self.assertEqual(greatest(made, ("here", program.names[0], None, 0), ("steps", None), FAR), 77)
            self.assertEqual(copy.deepcopy(program), program)

    def test_answers_are_new(self):
        for seed, program in guarded(range(98500, 98520), points=25):
            for wish, size in self.rows(program, seed)[:4]:
                for question in QUESTIONS:
                    first = answer(question, program, wish, size)
                    keep = copy.deepcopy(first)
                    for one in [first, *(first if isinstance(first, (list, tuple)) else [])]:
                        if isinstance(one, (list, dict)):
                            one.clear()
                    self.assertEqual(answer(question, program, wish, size), keep)

    def test_many_conditions(self):
        program = chain(3)
        expected = {point: greatest(chain(3), (point, "x", None, 0), ("rounds", None), 5) for point in range(17)}
        for _ in range(5):
            for size in sizes_of(program):
                for point in range(17):
                    limit(program, (point, "x", None, 3), size)
                    self.assertEqual(greatest(program, (point, "x", None, 0), ("rounds", None), 5), expected[point])


if __name__ == "__main__":
    unittest.main()
