"""The examples of the document, as they stand there."""

import doctest
import unittest

PROGRAMS = """
>>> from safeupto.programs import Program, is_body
>>> body = (('set', 'x', (('x', 'p'), (None, 3))), ('call', 'f'))
>>> program = Program([('x', 0, 4)], body, procedures=[('f', (('input', 'x', 0, 9),))], parameters=[('p', 1, 2)])
>>> [is_body(body), program.names, program.is_single, program.given({'p': 2}).main[0], program.body_of('f')]
[True, ('x',), False, ('set', 'x', (('x', 2), (None, 3))), (('input', 'x', 0, 9),)]
"""

FORMATS = r"""
>>> from safeupto.formats import format_program, parse_program
>>> lines = ['var x 0 4', 'param p 1 2', 'main', 'set x x+p 3', 'either', 'or', 'input x 0 9', 'end', 'end']
>>> program = parse_program('\n'.join(lines))
>>> [program.main, format_program(program) == '\n'.join(lines)]
[(('set', 'x', (('x', 'p'), (None, 3))), ('either', (), (('input', 'x', 0, 9),))), True]
"""

GRAPHS = """
>>> from safeupto.graphs import Graph
>>> from safeupto.programs import Program
>>> count = Program([('x', 0, 0), ('y', 0, 5)], (('loop', 'go', (('set', 'x', (('x', 3),)), ('place', 'here'))),))
>>> [Graph(count).points, Graph(count).edges[1], Graph(count).points_of('here'), Graph(count).end, count.is_single]
[6, (1, 2, ('round', 'go')), [4], 5, True]
"""

MACHINE = """
>>> from safeupto.machine import Machine, Run, runs
>>> from safeupto.programs import Program
>>> count = Program([('x', 0, 0), ('y', 0, 5)], (('loop', 'go', (('set', 'x', (('x', 3),)), ('place', 'here'))),))
>>> run = Run(Machine(count), (0, 4), [(0, None), (1, None), (2, None), (3, None)])
>>> [run.last.point, run.last.numbers, [other.last.point for other in runs(Machine(count), 2)]]
[4, (3, 4), [2, 5, 2, 5]]
"""


VALUES = """
>>> from safeupto.programs import Program
>>> from safeupto.values import greatest
>>> count = Program([('x', 0, 0), ('y', 0, 5)], (('loop', 'go', (('set', 'x', (('x', 3),)), ('place', 'here'))),))
>>> size = ('rounds', 'go')
>>> [greatest(count, ('here', 'x', 'y', 0), size, 4), greatest(count, ('here', 'y', None, 0), size, 0), greatest(count, ('here', 'x', None, 0), ('calls', None), 0)]
[12, None, 'endless']
"""

LIMITS = """
>>> from safeupto.limits import Limit, breaking, is_breaking, limit
>>> from safeupto.programs import Program
>>> rows = (('loop', 'go', (('set', 'x', (('x', 3),)), ('place', 'here'))),)
>>> count, far = Program([('x', 0, 0)], rows), ('here', 'x', None, 10 ** 30)
>>> found = limit(count, far, ('rounds', 'go'))
>>> [found.size, 5 in found, (found & Limit(9)).size, is_breaking(count, far, ('rounds', 'go'), found.size + 1, breaking(count, far, ('rounds', 'go')))]
[333333333333333333333333333333, True, 9, True]
"""

PAPERS = """
>>> from safeupto.papers import bounds, heights, is_bounds
>>> from safeupto.programs import Program
>>> count = Program([('x', 0, 0), ('y', 0, 5)], (('loop', 'go', (('set', 'x', (('x', 3),)), ('place', 'here'))),))
>>> size, wish = ('rounds', 'go'), ('here', 'x', None, 5)
>>> [heights(count, wish), len(heights(count, ('here', 'y', None, 5))), is_bounds(count, wish, size, 1, bounds(count, wish, size, 1)), bounds(count, wish, size, 2)]
[None, 5, True, None]
"""

RATES = """
>>> from safeupto.programs import Program
>>> from safeupto.rates import rate
>>> count = Program([('x', 0, 0), ('y', 0, 5)], (('loop', 'go', (('set', 'x', (('x', 3),)), ('place', 'here'))),))
>>> [rate(count, ('here', name, None, 0), size) for name, size in [('x', ('rounds', 'go')), ('y', ('rounds', 'go')), ('x', ('calls', None))]]
[(3, 1), (0, 1), 'endless']
"""

LINES = """
>>> from safeupto.lines import corners, least_line
>>> from safeupto.programs import Program
>>> rows = (('loop', 'a', (('set', 'x', (('x', 1),)),)), ('loop', 'b', (('set', 'x', ((None, 9),)),)), ('place', 'here'))
>>> late, wish, size = Program([('x', 0, 0)], rows), ('here', 'x', None, 0), ('rounds', None)
>>> [corners(late, wish, size), least_line(late, wish, size, (1, 1)), least_line(late, wish, size, (5, 2)), least_line(late, wish, size, (1, 2))]
[[(0, 0), (1, 9)], 8, 13, 'endless']
"""

FORMULAS = """
>>> from safeupto.formulas import Formula
>>> first, second = Formula([], [(0, 1, 0, 2)], None), Formula([0], [(0, 3, -10, 9), (1, 3, -10, 9), (2, 3, -10, 9)], None)
>>> both = first | second
>>> [both.greatest(2), both.greatest(12), both.greatest(10 ** 12), both(20).size, (both + 1)(20).size, Formula([1, 2], [], None)(5).size]
[4, 26, 2999999999987, 10, 9, None]
"""

STARTS = """
>>> from safeupto.programs import Program
>>> from safeupto.starts import Starts, pieces
>>> rows = (('loop', 'go', (('set', 'x', (('x', 'p'),)), ('place', 'here'))),)
>>> count, size, wish = Program([('x', 0, 0)], rows, parameters=[('p', 1, 6)]), ('rounds', 'go'), ('here', 'x', None, 12)
>>> starts = Starts(count.given({'p': 3}), wish, size)
>>> [starts.pairs, starts({'x': (1, 4)}, 13).size, [(low, high, one.size) for low, high, one in pieces(count, 'p', {}, wish, size)]]
[(('x', None),), 3, [(1, 1, 12), (2, 2, 6), (3, 3, 4), (4, 4, 3), (5, 6, 2)]]
"""

STAIRCASES = """
>>> from safeupto.programs import Program
>>> from safeupto.staircases import staircase
>>> rows = (('loop', 'a', (('set', 'x', (('x', 2),)),)), ('loop', 'b', (('set', 'x', (('x', 5),)),)), ('place', 'here'))
>>> two = Program([('x', 0, 0)], rows)
>>> [one.size for one in staircase(two, ('here', 'x', None, 12), ('rounds', 'a'), ('rounds', 'b'), 3)]
[2, 2, 1, 1]
"""

SUMMARIES = """
>>> from safeupto.programs import Program
>>> from safeupto.summaries import greatest_after, joined, summary
>>> step = Program([('x', 0, 0), ('y', 0, 0)], (('set', 'x', (('x', 1), ('y', 0))),))
>>> one = summary(step, 'main', ('steps', None), 2)
>>> [one['x', 'x'], joined(one, one)['x', 'x'], joined(one, one)['y', 'x'], greatest_after(one, {'x': 5, 'y': 9})['x']]
[(None, 1, 1), (None, None, 2), (None, None, 1), (None, 9, 9)]
"""

GUARDS = """
>>> from safeupto.guards import greatest_with, least_guards
>>> from safeupto.programs import Program
>>> from safeupto.wishes import safe_up_to, wished
>>> rows = (('loop', 'go', (('set', 'x', (('x', 1),)), ('place', 'here'), ('guard', 'g', 'x', 10, 2))),)
>>> capped, wish = Program([('x', 0, 0)], rows, widths=[('x', 4)]), ('here', 'x', None, 11)
>>> [wished(capped)[1], safe_up_to(capped, ('rounds', 'go')).size, least_guards(capped, wish), greatest_with(capped, wish, ['g'])]
[(0, 'x', None, 7), 7, (2, ('g',)), 11]
"""

CHANGES = """
>>> from safeupto.changes import is_paper, kept
>>> from safeupto.papers import heights
>>> from safeupto.programs import Program
>>> count = Program([('x', 0, 0), ('y', 0, 5)], (('loop', 'go', (('set', 'x', (('x', 3),)), ('place', 'here'))),))
>>> other = count.replaced('main', (('loop', 'go', (('set', 'x', (('x', 4),)), ('place', 'here'))),))
>>> paper = ('heights', ('here', 'y', None, 5), heights(count, ('here', 'y', None, 5)))
>>> [is_paper(count, paper), kept(other, [paper, None])]
[True, [True, False]]
"""

CONSOLE = r"""
>>> from safeupto.certificates import certify, check
>>> from safeupto.console import Console
>>> from safeupto.formats import parse_program
>>> text = 'var x 0 0\nmain\nloop go\nset x x+3\nplace here\nend\nend'
>>> paper = certify(parse_program(text), ('here', 'x', None, 100), ('rounds', 'go'), 33)
>>> console = Console()
>>> lines = ['load ' + text.replace('\n', '; '), 'size rounds go', 'limit here x - 100', 'rate here x -', 'limit here - x 0']
>>> [paper.split('\n')[8:10], check(paper), [console.run(line) for line in lines]]
[['condition here x - 100', 'bounds rounds go 33 6 6'], True, ['ok', 'ok', '33', '3/1', 'ever']]
"""

DOSSIERS = r"""
>>> from safeupto.dossiers import dossier, judge
>>> from safeupto.programs import Program
>>> capped = Program([('x', 0, 0)], (('loop', 'go', (('set', 'x', (('x', 1),)),)),), widths=[('x', 4)])
>>> text = dossier(capped, ('rounds', 'go'))
>>> [text.split('\n')[0], judge(text).size, judge(text.replace('dossier rounds go 7', 'dossier rounds go 9'))]
['dossier rounds go 7 5', 7, None]
"""


class Examples(unittest.TestCase):

    def holds(self, example):
        found = []
        test = doctest.DocTestParser().get_doctest(example, {}, "example", None, None)
        result = doctest.DocTestRunner(verbose=False).run(test, out=found.append)
        self.assertGreater(result.attempted, 0)
        self.assertEqual(result.failed, 0, "".join(found))

    def test_programs(self):
        self.holds(PROGRAMS)

    def test_formats(self):
        self.holds(FORMATS)

    def test_graphs(self):
        self.holds(GRAPHS)

    def test_machine(self):
        self.holds(MACHINE)

    def test_values(self):
        self.holds(VALUES)

    def test_limits(self):
        self.holds(LIMITS)

    def test_papers(self):
        self.holds(PAPERS)

    def test_rates(self):
        self.holds(RATES)

    def test_lines(self):
        self.holds(LINES)

    def test_formulas(self):
        self.holds(FORMULAS)

    def test_starts(self):
        self.holds(STARTS)

    def test_staircases(self):
        self.holds(STAIRCASES)

    def test_summaries(self):
        self.holds(SUMMARIES)

    def test_guards(self):
        self.holds(GUARDS)

    def test_changes(self):
        self.holds(CHANGES)

    def test_console(self):
        self.holds(CONSOLE)

    def test_dossiers(self):
        self.holds(DOSSIERS)


if __name__ == "__main__":
    unittest.main()
