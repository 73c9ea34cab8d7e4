"""Nodes and steps."""

import unittest

from safeupto.errors import InvalidCondition, InvalidProgram, InvalidSize, TooMany
from safeupto.graphs import Graph
from safeupto.programs import Program
from safeupto.terms import Terms
from tests.helpers import Case, Touchy, odd_objects
from tests.making import made_up

FAR = 10 ** 30
X = [("x", -2, 4), ("y", 3, 7), ("z", 0, 1)]
STEPS = ("steps", None)
PLACE = ("place", "here")


def terms(main, plus, minus, size=STEPS, place="here", procedures=(), variables=None):
    program = Program(variables or X, main, procedures=procedures, arrays=[("r", 3)])
    return Terms(program, (place, plus, minus, 0), size)


def first(name):
    """None comes ahead of the names."""
    return "" if name is None else name


def node_key(node):
    return (node[0], first(node[1]), first(node[2]))


def step_key(step):
    return (node_key(step[0]), step[1], node_key(step[2]), step[3], step[4])


class Plain:
    """Nodes and steps as the document tells them, found from all nodes there are."""

    def __init__(self, program, condition, size):
        graph = Graph(program)
        sides = (None,) + program.names
        every = {self.node(point, plus, minus) for point in range(graph.points) for plus in sides for minus in sides
                 if program.is_single or minus is None}
        steps = set()
        for edge, (source, target, action) in enumerate(graph.edges):
            counted = self.counted(size, action)
            for node in every:
                if node[0] == target:
                    for plus, more in self.before(action, node[1], 1):
                        for minus, less in self.before(action, node[2], -1):
                            steps.add((self.node(source, plus, minus), edge, node, more + less, counted))
        place, plus, minus, _ = condition
        points = [place] if isinstance(place, int) else graph.points_of(place)
        begins = {node for node in every if node[0] == 0}
        ends = {self.node(point, plus, minus) for point in points}
        matter = self.closed(begins, steps, 0, 2) & self.closed(ends, steps, 2, 0)
        self.nodes = sorted(matter, key=node_key)
        self.ends = sorted(ends & matter, key=node_key)
        self.steps = sorted([step for step in steps if step[0] in matter and step[2] in matter], key=step_key)
        ranges = {name: (low, high) for name, low, high in program.variables}
        ranges[None] = (0, 0)
        self.begins = {node: ranges[node[1]][1] - ranges[node[2]][0] for node in begins & matter}

    def node(self, point, plus, minus):
        return (point, None, None) if plus == minus else (point, plus, minus)

    def counted(self, size, action):
        word, name = action[:2] if action is not None else (None, None)
        kind = {"round": "rounds", "call": "calls", "set": "steps", "input": "steps"}.get(word)
        return int(kind == size[0] and size[1] in (None, name))

    def before(self, action, name, sign):
        if name is not None and action is not None and action[:2] == ("set", name):
            return [(variable, sign * constant) for variable, constant in action[2]]
        if name is not None and action is not None and action[:2] == ("input", name):
            return [(None, action[3] if sign == 1 else -action[2])]
        return [(name, 0)]

    def closed(self, nodes, steps, source, target):
        found = set(nodes)
        while True:
            more = {step[target] for step in steps if step[source] in found} - found
            if not more:
                return found
            found |= more


class SmallPrograms(Case):

    def told(self, found, nodes, begins, ends, steps):
        self.assertEqual(found.nodes(), nodes)
        self.assertEqual(found.begins(), begins)
        self.assertEqual(found.ends(), ends)
        self.assertEqual(found.steps(), steps)

    def test_place_alone(self):
        self.told(terms((PLACE,), "x", None), [(0, "x", None), (1, "x", None)], {(0, "x", None): 4}, [(1, "x", None)],
                  [((0, "x", None), 0, (1, "x", None), 0, 0)])
        self.told(terms((PLACE,), None, "x"), [(0, None, "x"), (1, None, "x")], {(0, None, "x"): 2}, [(1, None, "x")],
                  [((0, None, "x"), 0, (1, None, "x"), 0, 0)])
        self.told(terms((PLACE,), "y", "x"), [(0, "y", "x"), (1, "y", "x")], {(0, "y", "x"): 9}, [(1, "y", "x")],
                  [((0, "y", "x"), 0, (1, "y", "x"), 0, 0)])

    def test_at_the_beginning(self):
        self.told(terms((PLACE,), "x", "y", place=0), [(0, "x", "y")], {(0, "x", "y"): 1}, [(0, "x", "y")], [])

    def test_starts(self):
        for (plus, minus), start in {("x", None): 4, ("y", None): 7, (None, "x"): 2, (None, "y"): -3, ("x", "y"): 1,
                                     ("y", "x"): 9, ("z", "y"): -2, ("x", "z"): 4}.items():
            self.assertEqual(terms((), plus, minus, place=0).begins(), {(0, plus, minus): start})

    def test_set_plus(self):
        main = (("set", "x", (("y", 5),)), PLACE)
        self.told(terms(main, "x", None), [(0, "y", None), (1, "x", None), (2, "x", None)], {(0, "y", None): 7},
                  [(2, "x", None)], [((0, "y", None), 0, (1, "x", None), 5, 1), ((1, "x", None), 1, (2, "x", None), 0, 0)])
        self.told(terms(main, "x", "z"), [(0, "y", "z"), (1, "x", "z"), (2, "x", "z")], {(0, "y", "z"): 7},
                  [(2, "x", "z")], [((0, "y", "z"), 0, (1, "x", "z"), 5, 1), ((1, "x", "z"), 1, (2, "x", "z"), 0, 0)])

    def test_set_minus(self):
        main = (("set", "x", (("y", 5),)), PLACE)
        self.assertEqual(terms(main, None, "x").steps()[0], ((0, None, "y"), 0, (1, None, "x"), -5, 1))
        self.assertEqual(terms(main, "z", "x").steps()[0], ((0, "z", "y"), 0, (1, "z", "x"), -5, 1))
        self.assertEqual(terms(main, "z", "x").begins(), {(0, "z", "y"): -2})

    def test_both_the_same_variable(self):
        main = (("set", "x", (("y", 5),)), PLACE)
        self.told(terms(main, "x", "y"), [(0, None, None), (1, "x", "y"), (2, "x", "y")], {(0, None, None): 0},
                  [(2, "x", "y")], [((0, None, None), 0, (1, "x", "y"), 5, 1), ((1, "x", "y"), 1, (2, "x", "y"), 0, 0)])
        self.told(terms(main, "y", "x"), [(0, None, None), (1, "y", "x"), (2, "y", "x")], {(0, None, None): 0},
                  [(2, "y", "x")],
                  [((0, None, None), 0, (1, "y", "x"), -5, 1), ((1, "y", "x"), 1, (2, "y", "x"), 0, 0)])

    def test_constants(self):
        main = (("set", "x", ((None, 8),)), PLACE)
        self.assertEqual(terms(main, "x", None).steps()[0], ((0, None, None), 0, (1, "x", None), 8, 1))
        self.assertEqual(terms(main, None, "x").steps()[0], ((0, None, None), 0, (1, None, "x"), -8, 1))
        self.assertEqual(terms(main, "y", "x").steps()[0], ((0, "y", None), 0, (1, "y", "x"), -8, 1))
        self.assertEqual(terms(main, "x", "y").steps()[0], ((0, None, "y"), 0, (1, "x", "y"), 8, 1))

    def test_neither_is_set(self):
        main = (("set", "x", (("y", 5),)), PLACE)
        for plus, minus in [("y", None), (None, "y"), ("y", "z"), ("z", "y")]:
            self.assertEqual(terms(main, plus, minus).steps()[0], ((0, plus, minus), 0, (1, plus, minus), 0, 1))

    def test_input(self):
        main = (("input", "x", -10, 20), PLACE)
        for (plus, minus), (was_plus, was_minus, weight) in {
                ("x", None): (None, None, 20), (None, "x"): (None, None, 10), ("x", "y"): (None, "y", 20),
                ("y", "x"): ("y", None, 10), ("y", None): ("y", None, 0), ("y", "z"): ("y", "z", 0)}.items():
            self.assertEqual(terms(main, plus, minus).steps()[0],
                             ((0, was_plus, was_minus), 0, (1, plus, minus), weight, 1))

    def test_several_parts(self):
        main = (("set", "x", (("x", 1), ("z", 2), (None, 3), ("y", -4))), PLACE)
        found = terms(main, "x", None)
        self.assertEqual(found.steps(), [
            ((0, None, None), 0, (1, "x", None), 3, 1), ((0, "x", None), 0, (1, "x", None), 1, 1),
            ((0, "y", None), 0, (1, "x", None), -4, 1), ((0, "z", None), 0, (1, "x", None), 2, 1),
            ((1, "x", None), 1, (2, "x", None), 0, 0)])
        self.assertEqual(found.begins(), {(0, None, None): 0, (0, "x", None): 4, (0, "y", None): 7, (0, "z", None): 1})
        self.assertEqual(found.nodes()[:4], [(0, None, None), (0, "x", None), (0, "y", None), (0, "z", None)])

    def test_other_edges(self):
        main = (("guard", "g", "x", -5, 1), ("read", "r", "x"), PLACE, ("either", (), ()), ("call", "f"),
                ("loop", "a", ()), ("place", "last"))
        for plus, minus in [("x", None), (None, "x"), ("x", "y")]:
            found = terms(main, plus, minus, place="last", procedures=[("f", ())])
            self.assertEqual({(step[3], step[4]) for step in found.steps()}, {(0, 0)})
            self.assertEqual(found.nodes(), [(point, plus, minus) for point in range(13)])

    def test_counted(self):
        main = (("loop", "a", (("set", "x", (("x", 1),)), ("call", "f"))), ("loop", "b", (("input", "y", 0, 1),)),
                ("call", "g"), PLACE)
        procedures = [("f", (("call", "g"),)), ("g", ())]
        program = Program(X, main, procedures=procedures)
        edges = Graph(program).edges
        words = {("rounds", "a"): [("round", "a")], ("rounds", "b"): [("round", "b")],
                 ("rounds", None): [("round", "a"), ("round", "b")], ("calls", "f"): [("call", "f")],
                 ("calls", "g"): [("call", "g")], ("calls", None): [("call", "f"), ("call", "g")],
                 ("steps", None): [("set", "x"), ("input", "y")]}
        for size, actions in words.items():
            found = Terms(program, ("here", "x", None, 0), size).steps()
            self.assertEqual({step[1] for step in found}, set(range(len(edges))))
            for _, edge, _, _, counted in found:
                action = edges[edge][2]
                self.assertEqual(counted, int(action is not None and action[:2] in actions))
                self.assertIs(type(counted), int)

    def test_nodes_that_do_not_matter(self):
        main = (("set", "x", (("y", 1),)), PLACE, ("set", "x", (("z", 1),)), ("loop", "a", ()))
        found = terms(main, "x", None)
        self.assertEqual([node[0] for node in found.nodes()], [0, 1, 2])
        self.assertEqual({node[1] for node in found.nodes()}, {"x", "y"})
        found = terms((("either", (PLACE,), (("set", "x", (("z", 1),)),)),), "x", None)
        self.assertEqual(found.nodes(), [(0, "x", None), (1, "x", None), (2, "x", None)])

    def test_several_points(self):
        main = (PLACE, ("set", "x", (("x", 1),)), PLACE)
        found = terms(main, "x", None)
        self.assertEqual(found.ends(), [(1, "x", None), (3, "x", None)])
        self.assertEqual(found.nodes(), [(0, "x", None), (1, "x", None), (2, "x", None), (3, "x", None)])
        self.assertEqual(terms(main, "x", None, place=2).ends(), [(2, "x", None)])

    def test_none_comes_first(self):
        variables = [("z", 0, 1), ("a", 0, 1), ("b", 0, 1)]
        both = (("either", (("set", "z", (("a", 1),)),), (("set", "z", ((None, 4),)),)), PLACE)
        found = terms(both, "z", None, variables=variables)
        self.assertEqual(found.nodes()[:2], [(0, None, None), (0, "a", None)])
        self.assertEqual([step[0] for step in found.steps()[:2]], [(0, None, None), (0, "a", None)])
        found = terms(both, None, "z", variables=variables)
        self.assertEqual(found.nodes()[:2], [(0, None, None), (0, None, "a")])
        self.assertEqual([step[0] for step in found.steps()[:2]], [(0, None, None), (0, None, "a")])
        found = terms(both, "b", "z", variables=variables)
        self.assertEqual(found.nodes()[:2], [(0, "b", None), (0, "b", "a")])
        # From the node of None two steps lead along one edge.
        main = (("set", "a", ((None, 2),)), ("loop", "l", both[:1]), PLACE)
        found = terms(main, "z", None, variables=variables)
        self.assertEqual([step[:3] for step in found.steps()[:3]],
                         [((0, None, None), 0, (1, None, None)), ((0, None, None), 0, (1, "a", None)),
                          ((0, "z", None), 0, (1, "z", None))])

    def test_ends_in_a_loop(self):
        main = (("loop", "a", (PLACE, ("set", "x", (("y", 1),)), ("set", "y", (("x", 2),)))),)
        found = terms(main, "x", None, ("rounds", "a"))
        self.assertEqual(found.ends(), [(3, "x", None)])
        self.assertEqual(found.begins(), {(0, "x", None): 4, (0, "y", None): 7})
        self.assertIn(((1, "x", None), 1, (2, "x", None), 0, 1), found.steps())
        self.assertIn(((4, "x", None), 4, (5, "x", None), 0, 0), found.steps())
        self.assertIn(((3, "y", None), 3, (4, "x", None), 1, 0), found.steps())


class Everything(Case):

    def compared(self, program, condition, size):
        found, plain = Terms(program, condition, size), Plain(program, condition, size)
        self.assertEqual(found.nodes(), plain.nodes)
        self.assertEqual(found.begins(), plain.begins)
        self.assertEqual(found.ends(), plain.ends)
        self.assertEqual(found.steps(), plain.steps)

    def conditions(self, program, places):
        sides = (None,) + program.names
        return [(place, plus, minus, 0) for place in places for plus in sides for minus in sides
                if plus != minus and (minus is None or program.is_single)]

    def test_against_the_definition(self):
        seen = 0
        programs = (made_up(range(40), parameters=False, length=2)
                    + made_up(range(40, 80), parameters=False, length=2, single=True))
        for program in programs:
            try:
                graph = Graph(program)
            except TooMany:
                continue
            if graph.points > 40:
                continue
            places = {action[1] for _, _, action in graph.edges if action is not None and action[0] == "place"}
            sizes = [("steps", None), ("rounds", None), ("calls", None)] + [("rounds", name) for name in program.loops]
            sizes += [("calls", name) for name, _ in program.procedures]
            conditions = self.conditions(program, sorted(places) + [0, graph.end])
            for at, condition in enumerate(conditions[::3]):
                self.compared(program, condition, sizes[at % len(sizes)])
                seen += 1
        self.assertGreater(seen, 150)

    def test_150_points(self):
        body = (("set", "x", (("y", 1),)), ("set", "y", (("x", -1),))) * 15
        main = (("loop", "a", (("call", "f"), ("call", "f"))),) + (("set", "z", ((None, 3),)),) * 10 + (
            ("call", "f"), ("call", "f"), ("place", "here"))
        program = Program(X, main, procedures=[("f", body)])
        self.assertGreater(Graph(program).points, 140)
        self.compared(program, ("here", "x", "y", 0), ("steps", None))


class KindsAndErrors(Case):

    def setUp(self):
        self.main = (("loop", "a", (("set", "x", (("x", 1), ("y", 2))), PLACE)),)
        self.program = Program(X, self.main)
        self.condition = ("here", "x", None, 5)

    def test_new_lists_and_dicts(self):
        found = Terms(self.program, self.condition, STEPS)
        for call in [found.nodes, found.ends, found.steps]:
            first_one = call()
            self.assertIs(type(first_one), list)
            kept = list(first_one)
            first_one.append(None)
            first_one[0] = 7
            self.assertEqual(call(), kept)
        begins = found.begins()
        self.assertIs(type(begins), dict)
        kept = {node: begins[node] for node in begins}
        begins.clear()
        begins["x"] = 1
        self.assertEqual(found.begins(), kept)

    def test_kinds(self):
        found = Terms(self.program, self.condition, STEPS)
        for node in found.nodes() + found.ends() + list(found.begins()):
            self.assertEqual((type(node), len(node), type(node[0])), (tuple, 3, int))
        for step in found.steps():
            self.assertEqual((type(step), len(step)), (tuple, 5))
            self.assertIs(type(step[3]), int)

    def test_by_name(self):
        found = Terms(program=self.program, condition=self.condition, size=STEPS)
        self.assertEqual(found.steps(), Terms(self.program, self.condition, STEPS).steps())

    def test_the_bound_does_not_count(self):
        for most in [-FAR, 0, FAR]:
            self.assertEqual(Terms(self.program, ("here", "x", None, most), STEPS).nodes(),
                             Terms(self.program, self.condition, STEPS).nodes())

    def test_wrong_programs(self):
        for program in odd_objects() + [0, self.main, Program(X, self.main, parameters=[("p", 0, 1)])]:
            for condition in [self.condition, None, Touchy()]:
                for size in [STEPS, None, Touchy()]:
                    self.fails(InvalidProgram, program, Terms, program, condition, size)

    def test_too_many_points(self):
        program = Program(X, (("call", "f"),) * 40, procedures=[("f", (PLACE,) * 40)])
        for condition in [self.condition, None]:
            for size in [STEPS, None]:
                self.assertEqual(self.failing(TooMany, Terms, program, condition, size).limit, 150)

    def test_wrong_conditions(self):
        for condition in odd_objects() + [0, "here", ("here", "x", "y", 5), ("lost", "x", None, 5),
                                          ("here", "x", None), ["here", "x", None, 5], (True, "x", None, 5),
                                          (99, "x", None, 5), ("here", None, None, 5), ("here", "x", None, FAR + 1)]:
            for size in [STEPS, None, Touchy(), ("rounds", "none")]:
                self.fails(InvalidCondition, condition, Terms, self.program, condition, size)

    def test_wrong_sizes(self):
        for size in odd_objects() + [0, "steps", ("steps",), ("steps", "a"), ("rounds", "none"), ("calls", "a"),
                                     ["steps", None], ("round", "a"), ("steps", None, None)]:
            self.fails(InvalidSize, size, Terms, self.program, self.condition, size)

    def test_methods_stand_in_the_class(self):
        for name in ["nodes", "begins", "ends", "steps", "__init__"]:
            self.assertIn(name, vars(Terms))
        self.assertEqual(Terms.__module__, "safeupto.terms")


if __name__ == "__main__":
    unittest.main()
