"""The interface: each name where the document lists it, and all calls with the names of the document."""

import importlib
import inspect
import unittest

from tests.helpers import Case

# By the module: the functions with their arguments, and the classes with those of their methods.
FUNCTIONS = {
    "programs": {"is_body": "value"},
    "formats": {"format_program": "program", "parse_program": "text"},
    "machine": {"runs": "machine most"},
    "conditions": {"is_condition": "program value", "is_size": "program value", "size_of": "run size",
                   "first_break": "run condition"},
    "values": {"greatest": "program condition size most"},
    "limits": {"limit": "program condition size", "breaking": "program condition size",
               "is_breaking": "program condition size most value", "as_run": "program condition value"},
    "papers": {"heights": "program condition", "is_heights": "program condition value",
               "bounds": "program condition size most", "is_bounds": "program condition size most value"},
    "rates": {"rate": "program condition size", "best_ring": "program condition size", "rate_paper": "program condition size",
              "is_rate": "program condition size value"},
    "lines": {"least_line": "program condition size pair", "line_heights": "program condition size pair",
              "is_line": "program condition size pair most value", "corners": "program condition size"},
    "formulas": {"formula": "program condition size"},
    "starts": {"pieces": "program name values condition size"},
    "staircases": {"staircase": "program condition first second most"},
    "summaries": {"summary": "program name size most", "is_summary": "value", "joined": "first second",
                  "greatest_after": "summary highs"},
    "wishes": {"wished": "program", "safe_up_to": "program size", "first_broken": "program size"},
    "guards": {"greatest_with": "program condition names", "is_enough": "program condition names",
               "least_guards": "program condition", "broken_by": "program condition names",
               "is_broken_by": "program condition names value", "capped_heights": "program condition names",
               "is_capped_heights": "program condition names value", "cheaper": "program condition"},
    "changes": {"is_paper": "program value", "kept": "program papers", "moved": "first second conditions size"},
    "searches": {"shortest_break": "machine condition most", "campaign": "machine conditions size most"},
    "certificates": {"certify": "program condition size most", "check": "text"},
    "dossiers": {"dossier": "program size", "judge": "text"},
}
CLASSES = {
    "errors": {name: {"__init__": "value"} for name in """InvalidName InvalidNumber InvalidBody InvalidProgram InvalidState
               InvalidChoice InvalidCondition InvalidSize InvalidPaper InvalidCommand""".split()},
    "programs": {"Program": {"__init__": "variables main procedures parameters arrays widths", "body_of": "name",
                             "replaced": "name body", "given": "values", "mirrored": "", "__eq__": "other"}},
    "graphs": {"Graph": {"__init__": "program", "points_of": "place"}},
    "machine": {"State": {"__init__": "point numbers", "__eq__": "other"},
                "Machine": {"__init__": "program guards", "start": "numbers", "edges_from": "state", "step": "state choice"},
                "Run": {"__init__": "machine numbers choices", "more": "choices", "__len__": "", "__eq__": "other"}},
    "terms": {"Terms": {"__init__": "program condition size", "nodes": "", "begins": "", "ends": "", "steps": ""}},
    "limits": {"Limit": {"__init__": "size", "is_within": "other", "__and__": "other", "__bool__": "", "__contains__": "x",
                         "__eq__": "other"}},
    "formulas": {"Formula": {"__init__": "firsts stairs endless", "greatest": "count", "__call__": "most", "__or__": "other",
                             "__add__": "other"}},
    "starts": {"Starts": {"__init__": "program condition size", "formula": "pair", "__call__": "ranges most"}},
    "changes": {"Editor": {"__init__": "program", "replace": "name body", "undo": "", "redo": "", "trial": "",
                           "attempt": "changes accept"}},
    "console": {"Console": {"__init__": "", "run": "line"}},
}
PROPERTIES = {
    "programs": {"Program": "variables main procedures parameters arrays widths names loops places guards is_single"},
    "graphs": {"Graph": "points edges end"},
    "machine": {"State": "point numbers", "Machine": "program graph guards", "Run": "machine choices states last"},
    "limits": {"Limit": "size"}, "formulas": {"Formula": "firsts stairs endless"}, "starts": {"Starts": "pairs"},
    "changes": {"Editor": "program"},
}


def of(module):
    return importlib.import_module("safeupto." + module)


class Interface(Case):

    def test_functions(self):
        for module, functions in FUNCTIONS.items():
            for name, arguments in functions.items():
                found = getattr(of(module), name)
                self.assertEqual(found.__module__, "safeupto." + module)
                self.assertEqual(list(inspect.signature(found).parameters), arguments.split(), name)

    def test_classes(self):
        for module, classes in CLASSES.items():
            for name, methods in classes.items():
                found = getattr(of(module), name)
                self.assertEqual(found.__module__, "safeupto." + module)
                for method, arguments in methods.items():
                    self.assertIn(method, vars(found), name)
                    self.assertEqual(list(inspect.signature(vars(found)[method]).parameters)[1:], arguments.split(), method)

    def test_properties(self):
        for module, classes in PROPERTIES.items():
            for name, properties in classes.items():
                for one in properties.split():
                    self.assertIsInstance(vars(getattr(of(module), name))[one], property)

    def test_all_in_another_order(self):
        calls = {name: getattr(of(module), name) for module, functions in FUNCTIONS.items() for name in functions}
        program = of("formats").parse_program(
            "var x 0 0\nvar y 0 5\narray rows 4\nwidth x 4\nproc f\nset x x+1\nend\nmain\nloop go\ncall f\nplace here\n"
            "guard g x 5 2\nread rows x\nend\nend")
        named = of("programs").Program([("x", 0, 0)], (("loop", "go", (("set", "x", (("x", "p"),)), ("place", "here"))),),
                                       parameters=[("p", 1, 2)])
        condition, size = ("here", "x", None, 9), ("rounds", "go")
        machine = of("machine").Machine(program)
        run = of("machine").Run(machine, (0, 0), [])
        summary = calls["summary"](program, "f", size, 1)
        paper = ("breaking", condition, size, 10, calls["breaking"](program, condition, size))
        given = {"program": program, "condition": condition, "size": size, "most": 2, "value": None, "machine": machine,
                 "conditions": [condition], "run": run, "first": program, "second": program, "pair": (1, 1), "names": ["g"],
                 "papers": [paper], "highs": {"x": 0}, "summary": summary, "name": "f", "values": {}}
        other = {"parse_program": {"text": of("formats").format_program(program)}, "joined": {"first": summary, "second": summary},
                 "check": {"text": calls["certify"](program, condition, size, 3)},
                 "judge": {"text": calls["dossier"](program, size)},
                 "as_run": {"value": calls["breaking"](program, condition, size)},
                 "pieces": {"program": named, "name": "p"}, "staircase": {"first": size, "second": size}}
        for module, functions in FUNCTIONS.items():
            for name, arguments in functions.items():
                wishes = {**given, **other.get(name, {})}
                named_ones = {one: wishes[one] for one in arguments.split()[::-1]}
                by_name, by_place = calls[name](**named_ones), calls[name](*[wishes[one] for one in arguments.split()])
                if name in ("runs", "campaign"):
                    by_name, by_place = list(by_name), list(by_place)
                if name == "formula":
                    by_name, by_place = [(one.firsts, one.stairs, one.endless) for one in (by_name, by_place)]
                self.assertEqual(by_name, by_place, name)


if __name__ == "__main__":
    unittest.main()
