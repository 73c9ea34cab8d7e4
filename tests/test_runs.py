"""Run, and runs."""

import itertools
import unittest

from safeupto.errors import InvalidChoice, InvalidNumber, InvalidState, TooMany
from safeupto.machine import Machine, Run, State, runs
from safeupto.programs import Program
from tests.helpers import Agreeing, Case, Touchy, odd_numbers, odd_objects
from tests.making import made_up

PLACE = ("place", "here")
COUNT = Program([("x", 0, 0), ("y", 0, 5)], (("loop", "go", (("set", "x", (("x", 3),)), PLACE)),))
ROUND = [(1, None), (2, None), (3, None), (4, None)]


class Runs(Case):

    def test_example(self):
        run = Run(Machine(COUNT), (0, 4), [(0, None), (1, None), (2, None), (3, None)])
        self.assertEqual([run.last.point, run.last.numbers], [4, (3, 4)])

    def test_properties(self):
        machine = Machine(COUNT)
        run = Run(machine, (0, 4), [(0, None), (1, None), (2, None)])
        self.assertIs(run.machine, machine)
        self.assertEqual(run.choices, ((0, None), (1, None), (2, None)))
        self.assertEqual(run.states, (State(0, (0, 4)), State(1, (0, 4)), State(2, (0, 4)), State(3, (3, 4))))
        self.assertEqual(run.last, State(3, (3, 4)))
        self.assertEqual(len(run), 3)
        self.assertEqual([type(one) for one in [run.choices, run.states, run.last]], [tuple, tuple, State])
        for name in ["machine", "choices", "states", "last"]:
            self.assertIsInstance(vars(Run)[name], property)
            with self.assertRaises(AttributeError):
                setattr(run, name, ())

    def test_without_choices(self):
        for choices in [[], ()]:
            run = Run(Machine(COUNT), (0, 0), choices)
            self.assertEqual((run.choices, run.states, run.last, len(run)),
                             ((), (State(0, (0, 0)),), State(0, (0, 0)), 0))

    def test_by_name(self):
        run = Run(machine=Machine(COUNT), numbers=(0, 1), choices=((0, None),))
        self.assertEqual(run, Run(Machine(COUNT), (0, 1), [(0, None)]))
        self.assertEqual(run.more(choices=[(5, None)]).last, State(5, (0, 1)))

    def test_long(self):
        run = Run(Machine(COUNT), (0, 0), [(0, None)] + ROUND * 500)
        self.assertEqual((len(run), run.last.numbers), (2001, (1500, 0)))

    def test_inputs_and_guards(self):
        program = Program([("x", 0, 9)], (("input", "x", 2, 8), ("guard", "g", "x", 5, 1)))
        run = Run(Machine(program), (7,), [(0, 8), (1, None)])
        self.assertEqual([state.numbers for state in run.states], [(7,), (8,), (8,)])
        run = Run(Machine(program, guards=["g"]), (7,), [(0, 8), (1, None)])
        self.assertEqual([state.numbers for state in run.states], [(7,), (8,), (5,)])

    def test_wrong_numbers(self):
        for numbers in odd_objects() + [0, (0,), (1, 0), (0, 6), (0, 0, 0), [0, 0], (True, 0), "00"]:
            for choices in [[], None, [(9, 9)]]:
                self.fails(InvalidState, numbers, Run, Machine(COUNT), numbers, choices)

    def test_wrong_lists(self):
        for choices in odd_objects() + [0, "x", {(0, None): 1}, {(0, None)}, iter([(0, None)]), range(1)]:
            if not isinstance(choices, (list, tuple)):
                self.fails(InvalidChoice, choices, Run, Machine(COUNT), (0, 0), choices)
                run = Run(Machine(COUNT), (0, 0), [])
                self.fails(InvalidChoice, choices, run.more, choices)

    def test_first_wrong_choice(self):
        wrong = odd_objects() + [(1, None), (0, 0), (0,), [0, None], (0, None, None), (99, None), (-6, None)]
        for choice in wrong:
            for made in [list, tuple]:
                self.fails(InvalidChoice, choice, Run, Machine(COUNT), (0, 0), made([choice]))
                self.fails(InvalidChoice, choice, Run, Machine(COUNT), (0, 0), made([choice, (7, 7), None]))
                self.fails(InvalidChoice, choice, Run(Machine(COUNT), (0, 0), ()).more, made([choice, (7, 7)]))
        for choice in odd_objects() + [(0, None), (2, None), (1, 1), (6, None)]:
            self.fails(InvalidChoice, choice, Run, Machine(COUNT), (0, 0), [(0, None), choice, None])
            self.fails(InvalidChoice, choice, Run(Machine(COUNT), (0, 0), [(0, None)]).more, [choice, None])

    def test_more(self):
        machine = Machine(COUNT)
        run = Run(machine, (0, 2), [(0, None)])
        longer = run.more(ROUND + [(1, None)])
        self.assertEqual(longer, Run(machine, (0, 2), [(0, None)] + ROUND + [(1, None)]))
        self.assertEqual((len(longer), len(longer.states)), (6, 7))
        self.assertEqual(longer.states[:2], run.states)
        self.assertEqual(longer.last, State(2, (3, 2)))
        self.assertIs(longer.machine, machine)
        self.assertIsInstance(longer, Run)
        self.assertEqual(longer.more([]), longer)
        self.assertEqual(longer.more(()), longer)
        self.assertEqual(longer.more(((2, None),)).last, State(3, (6, 2)))
        self.assertEqual((run.choices, len(run.states), len(run)), (((0, None),), 2, 1))

    def test_more_changes_nothing_if_it_fails(self):
        run = Run(Machine(COUNT), (0, 2), [(0, None)])
        self.fails_like(InvalidChoice, (7, 7), run.more, [(1, None), (7, 7)])
        self.assertEqual((len(run), len(run.states), run.last), (1, 2, State(1, (0, 2))))

    def test_later_changes(self):
        choices = [(0, None)]
        run = Run(Machine(COUNT), (0, 2), choices)
        choices.append((1, None))
        self.assertEqual(run.choices, ((0, None),))
        longer = run.more(choices[1:])
        choices.clear()
        self.assertEqual(longer.choices, ((0, None), (1, None)))

    def test_methods_stand_in_the_class(self):
        for name in ["more", "__len__", "__eq__", "__init__"]:
            self.assertIn(name, vars(Run))
        self.assertEqual({Run.__module__, State.__module__, Machine.__module__, runs.__module__}, {"safeupto.machine"})


class Equality(Case):

    def setUp(self):
        self.main = (("input", "x", 0, 1), ("guard", "g", "x", 9, 1), ("guard", "h", "x", 9, 1))
        self.program = Program([("x", 0, 1)], self.main)

    def test_equal(self):
        one = Run(Machine(self.program), (0,), [(0, 1)])
        other = Run(Machine(Program([("x", 0, 1)], self.main)), (0,), ((0, 1),))
        self.is_true(one == other)
        self.is_false(one != other)
        self.is_true(Run(Machine(self.program, guards=["g", "h"]), (0,), [])
                     == Run(Machine(self.program, guards=("h", "g")), (0,), ()))

    def test_programs(self):
        one = Run(Machine(self.program), (0,), [(0, 1)])
        for other in [Program([("x", 0, 2)], self.main), Program([("x", 0, 1)], self.main, widths=[("x", 2)]),
                      Program([("x", 0, 1)], self.main + (PLACE,)), Program([("z", 0, 1)], (("input", "z", 0, 1),))]:
            self.is_false(one == Run(Machine(other), (0,), [(0, 1)]))
            self.is_true(one != Run(Machine(other), (0,), [(0, 1)]))

    def test_guards(self):
        made = [Run(Machine(self.program, guards=guards), (0,), [(0, 1)]) for guards in [(), ["g"], ["h"], ["g", "h"]]]
        for one, other in itertools.combinations(made, 2):
            self.is_false(one == other)

    def test_states_and_choices(self):
        machine = Machine(self.program)
        one = Run(machine, (0,), [(0, 1)])
        for other in [Run(machine, (1,), [(0, 1)]), Run(machine, (0,), [(0, 0)]), Run(machine, (0,), []),
                      Run(machine, (0,), [(0, 1), (1, None)])]:
            self.is_false(one == other)
            self.is_false(other == one)

    def test_the_other_body(self):
        machine = Machine(Program([("x", 0, 0)], (("either", (), ()),)))
        one, other = Run(machine, (0,), [(0, None)]), Run(machine, (0,), [(1, None)])
        self.is_false(one == other)

    def test_other_classes(self):
        run = Run(Machine(self.program), (0,), [])
        for other in [None, 0, (), [], run.states, run.last, run.machine, "x", Agreeing(), Touchy()]:
            self.is_false(run == other)


class AllRuns(Case):

    def told(self, program, most, **named):
        return [(run.states[0].numbers, run.choices) for run in runs(Machine(program, **named), most)]

    def test_example(self):
        self.assertEqual([run.last.point for run in runs(Machine(COUNT), 2)], [2, 5, 2, 5])

    def test_order(self):
        self.assertEqual(self.told(COUNT, 2), [((0, 0), ((0, None), (1, None))), ((0, 0), ((0, None), (5, None))),
                                               ((0, 5), ((0, None), (1, None))), ((0, 5), ((0, None), (5, None)))])

    def test_no_choices(self):
        program = Program([("x", -1, 2), ("y", 4, 4), ("z", 0, 1)], ())
        self.assertEqual(self.told(program, 0), [((x, 4, z), ()) for x in [-1, 2] for z in [0, 1]])
        self.assertEqual(self.told(program, 1), [])
        self.assertEqual(self.told(program, 100), [])

    def test_least_and_greatest(self):
        program = Program([("x", 0, 3)], (("input", "x", -5, 5), ("input", "x", 7, 7)))
        self.assertEqual(self.told(program, 2), [((x,), ((0, number), (1, 7))) for x in [0, 3] for number in [-5, 5]])
        program = Program([("x", 0, 1)], (("input", "x", 0, 1),))
        self.assertEqual(self.told(program, 1), [((x,), ((0, number),)) for x in [0, 1] for number in [0, 1]])

    def test_runs_are_runs(self):
        machine = Machine(COUNT, guards=())
        found = list(runs(machine, 3))
        for run in found:
            self.assertIsInstance(run, Run)
            self.assertIs(run.machine, machine)
            self.assertEqual(run, Run(machine, run.states[0].numbers, run.choices))
            self.assertEqual(len(run), 3)
        self.assertEqual(list(runs(machine=machine, most=3)), found)

    def test_guards(self):
        program = Program([("x", 0, 9)], (("guard", "g", "x", 5, 1),))
        self.assertEqual([run.last.numbers for run in runs(Machine(program), 1)], [(0,), (9,)])
        self.assertEqual([run.last.numbers for run in runs(Machine(program, guards=["g"]), 1)], [(0,), (5,)])

    def naive(self, program, most):
        """All runs, found from all starts and all choices."""
        machine = Machine(program)
        starts = itertools.product(*[sorted({low, high}) for _, low, high in program.variables])
        found = [Run(machine, numbers, []) for numbers in starts]
        for _ in range(most):
            longer = []
            for run in found:
                for index in machine.edges_from(run.last):
                    action = machine.graph.edges[index][2]
                    numbers = [None] if action is None or action[0] != "input" else {action[2], action[3]}
                    longer.extend(run.more([(index, number)]) for number in numbers)
            found = longer
        found.sort(key=lambda run: (run.states[0].numbers, run.choices))
        return found

    def test_against_all_choices(self):
        seen = 0
        for program in made_up(range(60), parameters=False, length=2):
            for most in [0, 1, 2, 3, 5]:
                try:
                    expected = self.naive(program, most)
                except TooMany:
                    break
                self.assertEqual(list(runs(Machine(program), most)), expected)
                seen += len(expected)
        self.assertGreater(seen, 300)

    def test_each_run_once(self):
        program = Program([("x", 0, 1), ("y", 1, 1)], (("loop", "a", (("input", "x", 0, 1), ("input", "y", 2, 2))),))
        for most in range(8):
            found = self.told(program, most)
            self.assertEqual(len(found), len(set(found)))
            self.assertEqual(found, sorted(found))

    def test_wrong_numbers(self):
        for most in odd_numbers() + [-1, 101, 1000, -100, 10 ** 30]:
            made = runs(Machine(COUNT), most)
            self.fails(InvalidNumber, most, next, iter(made))
        for most in [0, 1, 99, 100]:
            self.assertEqual(len(next(iter(runs(Machine(COUNT), most)))), most)

    def test_the_error_comes_when_the_iteration_begins(self):
        for most in [101, None, True, "1"]:
            made = runs(Machine(COUNT), most)
            with self.assertRaises(InvalidNumber):
                for _ in made:
                    self.fail("there is no run")

    def test_the_first_ones_of_very_many(self):
        program = Program([("x", 0, 1)], (("loop", "a", (("input", "x", 0, 1),)),))
        for most in [50, 99, 100]:
            found = list(itertools.islice(runs(Machine(program), most), 20))
            self.assertEqual(len(found), 20)
            told = [run.choices for run in found]
            self.assertEqual(told, sorted(told))
            self.assertEqual({len(run) for run in found}, {most})

    def test_no_run_of_this_length_among_very_many_shorter_ones(self):
        body = (("input", "x", 0, 1),) * 40
        program = Program([("x", 0, 1)], body)
        self.assertEqual(list(runs(Machine(program), 100)), [])
        self.assertEqual(list(runs(Machine(program), 41)), [])
        self.assertEqual(len(next(iter(runs(Machine(program), 40)))), 40)

    def test_the_only_long_ones_behind_very_many_shorter_ones(self):
        body = (("either", (("input", "x", 0, 1),) * 35, (("loop", "a", ()),)),)
        program = Program([("x", 0, 0)], body)
        found = list(runs(Machine(program), 100))
        self.assertGreater(len(found), 0)
        self.assertEqual({run.choices[0] for run in found}, {(36, None)})

    def test_what_is_taken_goes_on(self):
        # What was taken stays as it is while others are made, and can be gone on with.
        for program in made_up(range(6500, 6530), parameters=False):
            machine = Machine(program)
            taken = list(itertools.islice(runs(machine, 3), 40))
            for run in taken:
                again = Run(machine, run.states[0].numbers, run.choices)
                self.assertEqual(run, again)
                self.assertEqual(run.last, again.last)
                self.assertEqual(len(run.states), 4)
                for edge in machine.edges_from(run.last):
                    if machine.graph.edges[edge][2] is None:
                        self.assertEqual(run.more([(edge, None)]), again.more([(edge, None)]))
            self.assertEqual(taken, list(itertools.islice(runs(machine, 3), 40)))

    def test_end(self):
        program = Program([("x", 0, 0)], (PLACE, PLACE))
        self.assertEqual([len(list(runs(Machine(program), most))) for most in range(4)], [1, 1, 1, 0])

    def test_the_machine_is_not_changed(self):
        machine = Machine(COUNT)
        first = list(runs(machine, 4))
        self.assertEqual(list(runs(machine, 4)), first)


if __name__ == "__main__":
    unittest.main()
