"""is_body: every statement, and each with one thing wrong."""

import unittest

from safeupto.programs import is_body
from tests.helpers import Case, odd_names, odd_numbers, odd_objects

FAR = 10 ** 30
SET = ("set", "x", (("y", 1), (None, "p"), ("x", -1)))
INPUT = ("input", "x", -3, 4)
EITHER = ("either", (("place", "a"),), ())
LOOP = ("loop", "go", (("input", "x", 0, 1),))
CALL = ("call", "f")
PLACE = ("place", "here")
READ = ("read", "rows", "x")
GUARD = ("guard", "g", "x", 10, 5)
ALL = [SET, INPUT, EITHER, LOOP, CALL, PLACE, READ, GUARD]


def nested(levels):
    """Bodies inside of each other, so many levels, the last one empty."""
    body = ()
    for level in range(levels - 1):
        body = (("loop", "abcdefgh"[level], body),)
    return body


def nested_either(levels, side):
    body = ()
    for _ in range(levels - 1):
        body = (("either", body, ()),) if side == 1 else (("either", (), body),)
    return body


def with_item(statement, at, value):
    return statement[:at] + (value,) + statement[at + 1:]


class Bodies(Case):

    def test_each_statement(self):
        self.is_true(is_body(()))
        for statement in ALL:
            self.is_true(is_body((statement,)), statement)
        self.is_true(is_body(tuple(ALL)))

    def test_by_name(self):
        self.is_true(is_body(value=()))
        self.is_false(is_body(value=[]))

    def test_statements_inside(self):
        for statement in ALL:
            for body in [("loop", "a", (statement,)), ("either", (statement,), ()), ("either", (), (statement,))]:
                self.is_true(is_body((body,)), body)

    def test_names_are_any_names(self):
        for name in ["a", "z", "abcdefgh", "main", "set", "end", "or", "zzzzzzzz", "input", "none"]:
            for body in [(("set", name, ((name, name),)),), (("input", name, 0, 0),), (("loop", name, ()),),
                         (("call", name),), (("place", name),), (("read", name, name),),
                         (("guard", name, name, 0, 1),), (("loop", name, (("loop", name, ()),)),)]:
                self.is_true(is_body(body), body)

    def test_any_object(self):
        for value in odd_objects():
            if isinstance(value, tuple):
                continue
            self.is_false(is_body(value), repr(type(value)))
        for value in [0, 1, "set", list(ALL), {1: 2}, [PLACE], PLACE, SET, ("place", "a"), "place"]:
            self.is_false(is_body(value))

    def test_any_object_as_statement(self):
        for value in odd_objects() + [0, 1, "place", [], ["place", "a"], ("place",), (), (()), ((),)]:
            self.is_false(is_body((value,)), repr(type(value)))
            self.is_false(is_body((PLACE, value)), repr(type(value)))
            self.is_false(is_body((value, PLACE)), repr(type(value)))
            self.is_false(is_body((("loop", "a", (value,)),)))
            self.is_false(is_body((("either", (value,), ()),)))
            self.is_false(is_body((("either", (), (value,)),)))

    def test_any_object_as_first_word(self):
        for statement in ALL:
            for word in odd_names() + ["sets", "Set", "SET", " set", "round", "rounds", "end", "or", "main", "a"]:
                self.is_false(is_body((with_item(statement, 0, word),)))

    def test_other_first_word(self):
        words = [statement[0] for statement in ALL]
        for statement in ALL:
            for word in words:
                same = word == statement[0] or {word, statement[0]} == {"call", "place"}
                self.assertIs(is_body((with_item(statement, 0, word),)), same, (word, statement))

    def test_number_of_items(self):
        for statement in ALL:
            self.is_false(is_body((statement[:-1],)), statement)
            for more in [None, 0, 1, "x", (), ("x", 0)]:
                self.is_false(is_body((statement + (more,),)), statement)

    def test_a_list_for_a_statement(self):
        for statement in ALL:
            self.is_false(is_body((list(statement),)), statement)
            self.is_false(is_body([statement]), statement)

    def test_wrong_names(self):
        places = [(SET, 1), (INPUT, 1), (LOOP, 1), (CALL, 1), (PLACE, 1), (READ, 1), (READ, 2), (GUARD, 1), (GUARD, 2)]
        for statement, at in places:
            for name in odd_names():
                self.is_false(is_body((with_item(statement, at, name),)), (statement[0], at, repr(type(name))))

    def test_wrong_bodies_inside(self):
        for statement, at in [(LOOP, 2), (EITHER, 1), (EITHER, 2)]:
            for value in odd_objects() + [[PLACE], PLACE, list(ALL), "place", 0]:
                if not isinstance(value, tuple) or len(value) > 0:
                    self.is_false(is_body((with_item(statement, at, value),)), (statement[0], at))

    def test_wrong_numbers(self):
        for statement, at in [(INPUT, 2), (INPUT, 3), (GUARD, 3)]:
            for number in odd_numbers():
                self.is_false(is_body((with_item(statement, at, number),)), (statement[0], at, repr(type(number))))

    def test_inputs(self):
        for low, high in [(0, 0), (-FAR, FAR), (FAR, FAR), (-FAR, -FAR), (-1, 0), (3, 4)]:
            self.is_true(is_body((("input", "x", low, high),)), (low, high))
        for low, high in [(1, 0), (FAR, -FAR), (-FAR - 1, 0), (0, FAR + 1), (0, -1), (4, 3), (True, 1), (0, True),
                          (False, 0), (0, False), (FAR + 1, FAR + 1), (-FAR - 1, -FAR - 1)]:
            self.is_false(is_body((("input", "x", low, high),)), (low, high))

    def test_guards(self):
        for most, cost in [(0, 1), (-FAR, 99), (FAR, 50), (-1, 2)]:
            self.is_true(is_body((("guard", "g", "x", most, cost),)), (most, cost))
        for most, cost in [(0, 0), (0, 100), (0, -1), (FAR + 1, 1), (-FAR - 1, 1), (0, True), (True, 1), (False, 1)]:
            self.is_false(is_body((("guard", "g", "x", most, cost),)), (most, cost))
        for cost in odd_numbers():
            self.is_false(is_body((("guard", "g", "x", 0, cost),)))

    def test_number_of_parts(self):
        parts = (("a", 0), ("b", 0), ("c", 0), ("d", 0), (None, 0))
        for many in range(6):
            self.assertIs(is_body((("set", "x", parts[:many]),)), 1 <= many <= 4, many)

    def test_kinds_of_parts(self):
        for part in [("a", 0), (None, 0), ("a", FAR), ("a", -FAR), (None, FAR), (None, -FAR), ("a", "p"), (None, "p"),
                     ("x", "x"), ("main", "main")]:
            self.is_true(is_body((("set", "x", (part,)),)), part)
        for part in [("a",), ("a", 0, 0), (0, "a"), ("a", FAR + 1), ("a", -FAR - 1), (None, FAR + 1), ["a", 0],
                     ("a", None), (None, None), ("A", 0), ("a", "P"), ("a", ""), ("", 0), ("a", True), (None, False),
                     ("a", 1.0), (0, 0), (True, 0), ("abcdefghi", 0), ("a", "abcdefghi"), "a0", ("a", (0,))]:
            self.is_false(is_body((("set", "x", (part,)),)), part)
            self.is_false(is_body((("set", "x", (("b", 0), part)),)), part)
            self.is_false(is_body((("set", "x", (part, ("b", 0))),)), part)

    def test_odd_objects_in_parts(self):
        for value in odd_objects():
            self.is_false(is_body((("set", "x", (value,)),)))
            self.is_false(is_body((("set", "x", (("a", value),)),)))
            if value is not None:
                self.is_false(is_body((("set", "x", ((value, 0),)),)))

    def test_parts_of_other_kinds(self):
        for value in odd_objects() + [[("a", 0)], ("a", 0), {("a", 0): 1}, "a", 0]:
            self.is_false(is_body((("set", "x", value),)))

    def test_a_variable_twice(self):
        for parts in [(("a", 0), ("a", 1)), (("a", 0), ("a", 0)), ((None, 0), (None, 1)), ((None, "p"), (None, 0)),
                      (("a", 0), ("b", 0), ("a", "p")), ((None, 1), ("a", 0), ("b", 0), (None, 2)),
                      (("a", 0), ("b", 0), ("c", 0), ("c", 1))]:
            self.is_false(is_body((("set", "x", parts),)), parts)
        self.is_true(is_body((("set", "x", (("a", 1), ("b", 1), (None, 1))),)))
        self.is_true(is_body((("set", "x", (("a", 1), ("x", 1))), ("set", "x", (("a", 1), ("x", 1))))))

    def test_number_of_statements(self):
        for many in [39, 40, 41, 42, 100, 4000]:
            self.assertIs(is_body((PLACE,) * many), many <= 40, many)

    def test_number_of_statements_with_those_inside(self):
        for inside in range(36, 42):
            for body in [(("loop", "a", (PLACE,) * inside),), (("either", (PLACE,) * inside, ()),),
                         (("either", (), (PLACE,) * inside),), (("either", (PLACE,) * 20, (PLACE,) * (inside - 20)),),
                         (("loop", "a", (("loop", "b", ()),) + (PLACE,) * (inside - 1)),),
                         (("loop", "a", (PLACE,) * 10),) + (PLACE,) * (inside - 10),
                         (PLACE,) * (inside - 10) + (("loop", "a", (PLACE,) * 10),),
                         (("loop", "a", (("either", (("loop", "b", (PLACE,) * (inside - 2)),), ()),)),)]:
                self.assertIs(is_body(body), inside + 1 <= 40, (inside, body))

    def test_very_many_statements_inside_of_each_other(self):
        body = (PLACE,) * 39
        for _ in range(3):
            body = (("either", body, body),) * 40
        self.is_false(is_body(body))

    def test_levels(self):
        for levels in range(1, 8):
            self.assertIs(is_body(nested(levels)), levels <= 4, levels)
            self.assertIs(is_body(nested_either(levels, 1)), levels <= 4, levels)
            self.assertIs(is_body(nested_either(levels, 2)), levels <= 4, levels)
            self.assertIs(is_body((PLACE,) + nested(levels)), levels <= 4, levels)

    def test_levels_with_statements(self):
        deepest = (PLACE, PLACE)
        four = (("loop", "a", (("either", (("loop", "b", deepest),), deepest),)), PLACE)
        self.is_true(is_body(four))
        five = (("loop", "a", (("either", (("loop", "b", (("loop", "c", deepest),)),), deepest),)), PLACE)
        self.is_false(is_body(five))

    def test_defined_in_this_file(self):
        self.assertEqual(is_body.__module__, "safeupto.programs")


if __name__ == "__main__":
    unittest.main()
