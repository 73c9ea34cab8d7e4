"""The examples of the document, as they stand there."""

import doctest
import unittest

PROGRAMS = """
>>> from safeupto.programs import Program, is_body
>>> body = (('set', 'x', (('x', 'p'), (None, 3))), ('call', 'f'))
>>> program = Program([('x', 0, 4)], body, procedures=[('f', (('input', 'x', 0, 9),))], parameters=[('p', 1, 2)])
>>> [is_body(body), program.names, program.is_single, program.given({'p': 2}).main[0], program.body_of('f')]
[True, ('x',), False, ('set', 'x', (('x', 2), (None, 3))), (('input', 'x', 0, 9),)]
"""

FORMATS = r"""
>>> from safeupto.formats import format_program, parse_program
>>> lines = ['var x 0 4', 'param p 1 2', 'main', 'set x x+p 3', 'either', 'or', 'input x 0 9', 'end', 'end']
>>> program = parse_program('\n'.join(lines))
>>> [program.main, format_program(program) == '\n'.join(lines)]
[(('set', 'x', (('x', 'p'), (None, 3))), ('either', (), (('input', 'x', 0, 9),))), True]
"""

GRAPHS = """
>>> from safeupto.graphs import Graph
>>> from safeupto.programs import Program
>>> count = Program([('x', 0, 0), ('y', 0, 5)], (('loop', 'go', (('set', 'x', (('x', 3),)), ('place', 'here'))),))
>>> [Graph(count).points, Graph(count).edges[1], Graph(count).points_of('here'), Graph(count).end, count.is_single]
[6, (1, 2, ('round', 'go')), [4], 5, True]
"""

MACHINE = """
>>> from safeupto.machine import Machine, Run, runs
>>> from safeupto.programs import Program
>>> count = Program([('x', 0, 0), ('y', 0, 5)], (('loop', 'go', (('set', 'x', (('x', 3),)), ('place', 'here'))),))
>>> run = Run(Machine(count), (0, 4), [(0, None), (1, None), (2, None), (3, None)])
>>> [run.last.point, run.last.numbers, [other.last.point for other in runs(Machine(count), 2)]]
[4, (3, 4), [2, 5, 2, 5]]
"""


class Examples(unittest.TestCase):

    def holds(self, example):
        found = []
        test = doctest.DocTestParser().get_doctest(example, {}, "example", None, None)
        result = doctest.DocTestRunner(verbose=False).run(test, out=found.append)
        self.assertGreater(result.attempted, 0)
        self.assertEqual(result.failed, 0, "".join(found))

    def test_programs(self):
        self.holds(PROGRAMS)

    def test_formats(self):
        self.holds(FORMATS)

    def test_graphs(self):
        self.holds(GRAPHS)

    def test_machine(self):
        self.holds(MACHINE)


if __name__ == "__main__":
    unittest.main()
