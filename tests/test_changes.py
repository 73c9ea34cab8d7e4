"""Papers behind changes, moved limits, and the editor."""

import random
import unittest

from safeupto.changes import Editor, is_paper, kept, moved
from safeupto.errors import (InvalidBody, InvalidCondition, InvalidName, InvalidPaper, InvalidProgram, InvalidSize,
                             NothingToRedo, NothingToUndo, TooMany)
from safeupto.guards import broken_by, capped_heights
from safeupto.limits import Limit, breaking, limit
from safeupto.papers import bounds, heights
from safeupto.programs import Program
from safeupto.rates import rate_paper
from tests.growing import chain, grown, sizes_of
from tests.helpers import Agreeing, Case, Touchy, odd_objects

FAR = 10 ** 30
GO = ("rounds", "go")
HERE = ("place", "here")
WISH = ("here", "x", None, 9)
LOW = ("here", "y", None, 5)


def count(gain=3, *more):
    body = (("set", "x", (("x", gain),)), HERE, ("guard", "g", "x", 6, 1)) + more
    return Program([("x", 0, 0), ("y", 0, 5)], (("loop", "go", body),))


def papers(program):
    """A paper of each kind."""
    return [("heights", LOW, heights(program, LOW)),
            ("bounds", WISH, GO, 3, bounds(program, WISH, GO, 3)),
            ("breaking", WISH, GO, 4, breaking(program, WISH, GO)),
            ("rate", WISH, GO, rate_paper(program, WISH, GO)),
            ("guards", ("here", "x", None, 8), ["g"], broken_by(program, ("here", "x", None, 8), ["g"])),
            ("capped", WISH, ("g",), capped_heights(program, WISH, ("g",)))]


class IsPaper(Case):

    def test_each_kind(self):
        program = count()
        for paper in papers(program):
            self.is_true(is_paper(program, paper), paper)
            self.is_true(is_paper(value=paper, program=program))

    def test_bent(self):
        program = count()
        for paper in papers(program):
            word, condition, *rest = paper
            wrong = [list(paper), paper[:-1], paper + (None,), (word.upper(), *paper[1:]), (word + "s", *paper[1:]), paper[1:],
                     ("", *paper[1:]), (None, *paper[1:]), ([word], *paper[1:]), (Touchy(), *paper[1:]),
                     (Agreeing(), *paper[1:]), (word, None, *rest), (word, [condition], *rest), (word, Touchy(), *rest),
                     (word, ("there", *condition[1:]), *rest), (word, (*condition[:3], FAR + 1), *rest),
                     (word, ("here", "x", "x", 0), *rest), (*paper[:-1], None), (*paper[:-1], []), (*paper[:-1], {}),
                     (*paper[:-1], Touchy()), (*paper[:-1], Agreeing()), (*paper[:-1], (paper[-1],))]
            for at in range(2, len(paper) - 1):
                for odd in [None, Touchy(), Agreeing(), {}, [[]], -1, ("rounds", "gone"), ["h"], True]:
                    wrong.append((*paper[:at], odd, *paper[at + 1:]))
            for value in wrong:
                self.is_false(is_paper(program, value), value)
            for other in papers(program):
                if other[0] != word:
                    self.is_false(is_paper(program, (other[0], *paper[1:])))

    def test_one_number_bent(self):
        program = count()
        found = dict((paper[0], paper) for paper in papers(program))
        height = found["heights"][2]
        self.is_false(is_paper(program, ("heights", LOW, {**height, (0, "y", None): 4})))
        self.is_false(is_paper(program, ("heights", (*LOW[:3], 4), height)))
        self.is_false(is_paper(program, ("bounds", WISH, GO, 4, found["bounds"][4])))
        self.is_false(is_paper(program, ("bounds", WISH, ("calls", None), 3, found["bounds"][4])))
        self.is_false(is_paper(program, ("breaking", WISH, GO, 3, found["breaking"][4])))
        self.is_true(is_paper(program, ("breaking", WISH, GO, 10 ** 40, found["breaking"][4])))
        self.is_true(is_paper(program, ("breaking", WISH, GO, 5, found["breaking"][4])))
        self.is_false(is_paper(program, ("rate", WISH, ("steps", None), ((6, 1), *found["rate"][3][1:]))))
        self.is_false(is_paper(program, ("guards", WISH, ["g"], found["guards"][3])))
        self.is_false(is_paper(program, ("capped", WISH, (), found["capped"][3])))
        self.is_false(is_paper(program, ("capped", ("here", "x", None, 8), ("g",), found["capped"][3])))

    def test_functions_that_raise(self):
        program = chain(24)
        steps = ("rounds", None)
        for value in [("bounds", ("here", "x", None, 0), steps, 0, ({}, [])), ("bounds", ("here", "x", None, 0), steps, -1, ({}, [])),
                      ("breaking", ("here", "x", None, 0), steps, None, []), ("guards", ("here", "x", None, 0), ["g"], [])]:
            self.is_false(is_paper(program, value))
        nine = Program([("x", 0, 0)], tuple(("guard", "g" + one, "x", 0, 1) for one in "abcdefghi") + (HERE,))
        self.is_false(is_paper(nine, ("capped", ("here", "x", None, 0), (), {(at, "x", None): 0 for at in range(11)})))
        self.is_true(is_paper(nine, ("heights", ("here", "x", None, 0), {(at, "x", None): 0 for at in range(11)})))

    def test_any_object(self):
        for value in odd_objects() + [0, ("heights",), "heights", ["heights", LOW, {}], ((), (), ()), ((),)]:
            self.is_false(is_paper(count(), value))

    def test_errors(self):
        named = Program([("x", 0, 0)], (), parameters=[("p", 0, 1)])
        long = Program([("x", 0, 0)], (("call", "f"),) * 40, procedures=[("f", (HERE,) * 40)])
        for call in (is_paper, kept):
            for value in odd_objects() + [named]:
                self.fails(InvalidProgram, value, call, value, None)
            self.assertEqual(self.failing(TooMany, call, long, None).limit, 150)
        for value in [one for one in odd_objects() if type(one) not in (list, tuple)] + ["heights", {}, 0]:
            self.fails(InvalidPaper, value, kept, count(), value)


class Kept(Case):

    def test_behind_changes(self):
        program = count()
        rows = papers(program)
        self.assertEqual(kept(program, rows), [True] * 6)
        self.assertEqual(kept(count(4), rows), [True, False, True, False, True, False])
        self.assertEqual(kept(count(2), rows), [True, True, False, False, False, True])
        self.assertEqual(kept(program.replaced("main", program.main + (("place", "there"),)), rows), [True] * 6)
        self.assertEqual(kept(program.replaced("main", program.main + (HERE,)), rows),
                         [False, False, True, False, True, False])
        gone = [(("loop", "gone", program.main[0][2]),), (("loop", "go", program.main[0][2][:2]),),
                (("loop", "go", program.main[0][2][:1] + program.main[0][2][2:]),)]
        self.assertEqual([kept(program.replaced("main", main), rows) for main in gone],
                         [[True, False, False, False, True, True], [False] * 6, [False] * 6])

    def test_as_is_paper(self):
        rows = papers(count())
        mixed = [rows[0], None, Touchy(), rows[5], ["x"], {}, rows[2], rows[2]]
        for values in (mixed, tuple(mixed)):
            found = kept(count(), values)
            self.assertIs(type(found), list)
            self.assertEqual(found, [True, False, False, True, False, False, True, True])
        self.assertEqual(kept(papers=[], program=count()), [])

    def test_papers_stay(self):
        program = count()
        rows, same = papers(program), papers(program)
        for other in [program, count(4)]:
            kept(other, rows)
            for paper in rows:
                is_paper(other, paper)
        self.assertEqual(rows, same)

    def test_made_up(self):
        seen = {True: 0, False: 0}
        for seed, program in grown(range(50000, 50060)):
            other = random.Random(seed).choice([one for _, one in grown(range(seed + 1, seed + 30))])
            if seed % 2 == 0:
                other = program.replaced("main", program.main[:-1] + (("place", "there"), HERE))
            for size in sizes_of(program)[:2]:
                for most in [0, 5]:
                    wish = ("here", "x", None, most)
                    try:
                        rows = [("heights", wish, heights(program, wish)), ("rate", wish, size, rate_paper(program, wish, size)),
                                ("bounds", wish, size, 1, bounds(program, wish, size, 1)),
                                ("breaking", wish, size, 3, breaking(program, wish, size))]
                    except TooMany:
                        continue
                    right = [rows[0][2] is not None, True, rows[2][4] is not None, limit(program, wish, size) & Limit(3) == Limit(3)]
                    right[3] = not 3 in limit(program, wish, size)
                    self.assertEqual(kept(program, rows), right)
                    for paper, is_kept in zip(rows, kept(other, rows)):
                        seen[is_kept] += 1
                        if is_kept and paper[0] == "heights":
                            self.assertIsNone(limit(other, wish, size).size)
        self.assertGreater(min(seen.values()), 5)


class Moved(Case):

    def test_limits_that_differ(self):
        first, second = count(), count(4)
        rows = [WISH, LOW, ("here", "x", None, 2), ("here", "x", None, 3), WISH, (0, "x", None, -1)]
        self.assertEqual([(one, two.size, three.size) for one, two, three in moved(first, second, rows, GO)],
                         [(WISH, 3, 2), (("here", "x", None, 3), 1, 0), (WISH, 3, 2)])
        self.assertEqual(moved(first, first, tuple(rows), GO), [])
        self.assertEqual(moved(first, second, [], GO), [])
        found = moved(size=GO, conditions=[WISH], second=second, first=first)
        self.assertIs(type(found[0]), tuple)
        self.assertEqual(found, [(WISH, Limit(3), Limit(2))])

    def test_for_ever(self):
        first, second = count(0), count(1)
        self.assertEqual(moved(first, second, [WISH], GO), [(WISH, Limit(None), Limit(9))])
        self.assertEqual(moved(second, first, [WISH], GO), [(WISH, Limit(9), Limit(None))])

    def test_made_up(self):
        differing = 0
        for seed, program in grown(range(51000, 51080)):
            chance = random.Random(seed)
            other = program.replaced("main", program.main[1:]) if len(program.main) > 2 else program
            size = chance.choice([("steps", None), ("rounds", None), ("calls", None)])
            conditions = [("here", chance.choice(program.names), None, chance.randint(-5, 30)) for _ in range(4)]
            try:
                expected = [(one, limit(program, one, size), limit(other, one, size)) for one in conditions]
            except TooMany:
                continue
            found = moved(program, other, conditions, size)
            self.assertEqual(found, [row for row in expected if row[1] != row[2]])
            differing += len(found)
        self.assertGreater(differing, 20)

    def test_unlike_programs(self):
        first = Program([("x", 0, 0)], (("loop", "go", (("set", "x", (("x", 1),)),)), HERE))
        second = Program([("y", 0, 0), ("x", 0, 0)], (HERE, ("loop", "go", (("set", "x", (("x", 1),)),)),
                                                      ("loop", "in", ())))
        self.assertEqual(moved(first, second, [WISH, (0, "x", None, 0)], GO), [(WISH, Limit(9), Limit(None))])
        last = (6, "x", None, 5)
        for condition in [("here", "y", None, 0), last, ("here", None, "y", 0), ("here", "x", "y", 0)]:
            self.fails(InvalidCondition, condition, moved, first, second, [WISH, condition], GO)
            self.fails(InvalidCondition, condition, moved, second, first, (WISH, condition, None), GO)
        for size in [("rounds", "in"), ("rounds", "out"), None]:
            self.fails(InvalidSize, size, moved, first, second, [WISH], size)
            self.fails(InvalidSize, size, moved, second, first, [], size)

    def test_single_in_one_only(self):
        first = count()
        second = first.replaced("main", first.main + (("set", "x", (("x", 0), ("y", 0))),))
        self.assertEqual(moved(first, first, [("here", "x", "y", 0)], GO), [])
        for pair in [(first, second), (second, first)]:
            self.fails_like(InvalidCondition, ("here", "x", "y", 0), moved, *pair, [("here", "x", "y", 0)], GO)

    def test_errors_in_order(self):
        named = Program([("x", 0, 0)], (), parameters=[("p", 0, 1)])
        long = Program([("x", 0, 0)], (("call", "f"),) * 40, procedures=[("f", (HERE,) * 40)])
        for value in odd_objects() + [named]:
            self.fails(InvalidProgram, value, moved, value, value, None, None)
            self.fails(InvalidProgram, value, moved, long, value, None, None)
            self.fails(InvalidProgram, value, moved, count(), value, None, None)
        for pair in [(long, count()), (count(), long)]:
            self.assertEqual(self.failing(TooMany, moved, *pair, None, None).limit, 150)
        for value in [one for one in odd_objects() if type(one) not in (list, tuple)] + ["x", {}, {"x"}]:
            self.fails(InvalidCondition, value, moved, count(), count(4), value, None)
        for value in odd_objects():
            self.fails(InvalidCondition, value, moved, count(), count(4), [WISH, value, None], None)
            self.fails(InvalidSize, value, moved, count(), count(4), [WISH], value)
        one, other = chain(24), chain(23)
        for pair in [(one, other), (other, one)]:
            self.assertEqual(self.failing(TooMany, moved, *pair, [("here", "x", None, 0)], ("rounds", None)).limit, 24)
            self.assertEqual(moved(*pair, [], ("rounds", None)), [])
            self.fails(InvalidCondition, None, moved, *pair, [("here", "x", None, 0), None], ("rounds", None))


class Stacks:
    """What an editor is to do, with two stacks."""

    def __init__(self, program):
        self.now, self.past, self.future = program, [], []

    def copy(self):
        other = Stacks(self.now)
        other.past, other.future = list(self.past), list(self.future)
        return other

    def put(self, program):
        self.past.append(self.now)
        self.now, self.future = program, []

    def undo(self):
        self.future.append(self.now)
        self.now = self.past.pop()

    def redo(self):
        self.past.append(self.now)
        self.now = self.future.pop()


class Broken(Exception):
    pass


def body(number):
    return (("set", "x", (("x", number),)), HERE)


class Editing(Case):

    def same(self, editor, stacks):
        """Looks whether an editor has just what these stacks have."""
        self.assertEqual(editor.program, stacks.now)
        back = 0
        with editor.trial():
            seen = []
            while True:
                try:
                    self.assertIsNone(editor.undo())
                except NothingToUndo:
                    break
                seen.append(editor.program)
                back += 1
            self.assertEqual(seen, stacks.past[::-1])
            for _ in range(back):
                editor.redo()
            self.assertEqual(editor.program, stacks.now)
            seen = []
            while True:
                try:
                    self.assertIsNone(editor.redo())
                except NothingToRedo:
                    break
                seen.append(editor.program)
            self.assertEqual(seen, stacks.future[::-1])
        self.assertEqual(editor.program, stacks.now)

    def test_against_two_stacks(self):
        for seed in range(150):
            chance = random.Random(seed)
            program = Program([("x", 0, 0)], body(0), procedures=[("f", ())])
            editor, stacks = Editor(program), Stacks(program)
            for _ in range(chance.randint(1, 12)):
                self.move(chance, editor, stacks, 3)
            self.same(editor, stacks)

    def move(self, chance, editor, stacks, levels):
        kind = chance.choice(["put", "put", "undo", "redo", "wrong", "trial", "trial", "attempt"])
        if kind == "put":
            number, name = chance.randint(0, 9), chance.choice(["main", "f"])
            self.assertIsNone(editor.replace(name, body(number)))
            stacks.put(stacks.now.replaced(name, body(number)))
        elif kind == "undo":
            self.step(editor.undo, stacks.undo, stacks.past, NothingToUndo)
        elif kind == "redo":
            self.step(editor.redo, stacks.redo, stacks.future, NothingToRedo)
        elif kind == "wrong":
            self.fails(InvalidName, "g", editor.replace, "g", None)
            self.fails_like(InvalidBody, (1,), editor.replace, "f", (1,))
        elif kind == "attempt":
            self.attempt(chance, editor, stacks)
        elif levels > 0:
            self.block(chance, editor, stacks, levels)
        self.assertEqual(editor.program, stacks.now)

    def step(self, call, other, rows, error):
        if rows:
            self.assertIsNone(call())
            other()
        else:
            self.failing(error, call)

    def block(self, chance, editor, stacks, levels):
        accepts, breaks = chance.random() < 0.6, chance.random() < 0.3
        inside = stacks.copy()
        early = chance.random() < 0.5
        try:
            with editor.trial() as trial:
                if accepts and early:
                    self.assertIsNone(trial.accept())
                for _ in range(chance.randint(0, 4)):
                    self.move(chance, editor, inside, levels - 1)
                self.same(editor, inside)
                if accepts and not early:
                    self.assertIsNone(trial.accept())
                    trial.accept()
                if breaks:
                    raise Broken()
        except Broken:
            self.assertTrue(breaks)
        if accepts and not breaks:
            stacks.put(inside.now)
        self.same(editor, stacks)

    def attempt(self, chance, editor, stacks):
        changes = [(chance.choice(["main", "f"]), body(chance.randint(0, 9))) for _ in range(chance.randint(0, 3))]
        accept = chance.choice([True, True, False, 1, None, "yes", [True]])
        expected = stacks.now
        for name, one in changes:
            expected = expected.replaced(name, one)
        self.assertEqual(editor.attempt(chance.choice([changes, tuple(changes)]), accept), expected)
        if accept is True:
            stacks.put(expected)

    def test_plain(self):
        program = count()
        editor = Editor(program)
        self.assertIs(editor.program, program)
        self.failing(NothingToUndo, editor.undo)
        self.failing(NothingToRedo, editor.redo)
        self.assertIsNone(editor.replace("main", ()))
        self.assertEqual(editor.program, program.replaced("main", ()))
        self.assertIsNone(editor.undo())
        self.assertEqual(editor.program, program)
        self.assertIsNone(editor.redo())
        self.assertEqual(editor.program, program.replaced("main", ()))
        editor.undo()
        editor.replace("main", (HERE,))
        self.failing(NothingToRedo, editor.redo)
        self.assertIsNone(editor.replace(body=(), name="main"))

    def test_which_programs(self):
        named = Program([("x", 0, 0)], (("set", "x", (("x", "p"),)),), parameters=[("p", 0, 1)])
        editor = Editor(program=named)
        editor.replace("main", (("set", "x", ((None, "p"),)),))
        self.assertEqual(editor.program.parameters, (("p", 0, 1),))
        for value in odd_objects() + ["x", 0, [named]]:
            self.fails(InvalidProgram, value, Editor, value)

    def test_errors_change_nothing(self):
        editor = Editor(Program([("x", 0, 0)], body(1), procedures=[("f", ())]))
        editor.replace("f", body(2))
        editor.replace("f", body(3))
        editor.undo()
        doubled = (("loop", "f", ()),)
        for kind, name, value in [(InvalidName, "g", ()), (InvalidName, None, ()), (InvalidName, "here", None),
                                  (InvalidName, Touchy(), ()), (InvalidBody, "f", []), (InvalidBody, "main", Touchy()),
                                  (InvalidProgram, "f", doubled), (InvalidProgram, "f", (("call", "f"),)),
                                  (InvalidProgram, "main", (("set", "y", (("x", 0),)),))]:
            for call in [lambda: editor.replace(name, value), lambda: editor.attempt([("f", body(9)), (name, value)], True)]:
                error = self.failing(kind, call)
                self.assertIs(error.value, name if kind is InvalidName else value)
                self.assertEqual(editor.program.body_of("f"), body(2))
        editor.redo()
        self.assertEqual(editor.program.body_of("f"), body(3))
        self.failing(NothingToRedo, editor.redo)
        editor.undo()
        editor.undo()
        self.failing(NothingToUndo, editor.undo)

    def test_attempts(self):
        editor = Editor(count())
        for accept in [1, None, "True", [True], 1.0, Agreeing(), False, 2, Touchy()]:
            self.assertEqual(editor.attempt([("main", ())], accept).main, ())
            self.assertEqual(editor.program, count())
        self.failing(NothingToUndo, editor.undo)
        self.assertEqual(editor.attempt(accept=True, changes=(("main", ()), ("main", (HERE,)))).main, (HERE,))
        self.assertEqual(editor.program.main, (HERE,))
        editor.undo()
        self.assertEqual(editor.program, count())
        self.failing(NothingToUndo, editor.undo)
        # An accepted trial is a change, whether or not the program is another one.
        self.assertEqual(editor.attempt([], True), count())
        self.failing(NothingToRedo, editor.redo)
        editor.undo()
        for changes in [one for one in odd_objects() if type(one) not in (list, tuple)] + [
                "main", {"main": ()}, [None], [("main",)], [("main", (), ())], [["main", ()]], ("main", ()), [("main", ()), ()]]:
            self.fails(InvalidProgram, changes, editor.attempt, changes, True)
            self.assertEqual(editor.program, count())

    def test_trials_inside_of_each_other(self):
        program = Program([("x", 0, 0)], body(0))
        editor = Editor(program)
        editor.replace("main", body(1))
        with editor.trial() as outer:
            editor.replace("main", body(2))
            with editor.trial() as inner:
                self.assertIsNot(inner, outer)
                editor.replace("main", body(3))
                editor.replace("main", body(4))
                inner.accept()
                editor.undo()
                outer.accept()
            self.assertEqual(editor.program.main, body(3))
            editor.undo()
            self.assertEqual(editor.program.main, body(2))
            editor.redo()
        self.assertEqual(editor.program.main, body(3))
        editor.undo()
        self.assertEqual(editor.program.main, body(1))
        editor.redo()
        self.assertEqual(editor.program.main, body(3))
        self.failing(NothingToRedo, editor.redo)

    def test_error_inside(self):
        editor = Editor(Program([("x", 0, 0)], body(0)))
        editor.replace("main", body(1))
        editor.undo()
        with editor.trial() as outer:
            editor.redo()
            with self.assertRaises(Broken):
                with editor.trial() as inner:
                    inner.accept()
                    editor.replace("main", body(3))
                    raise Broken()
            self.assertEqual(editor.program.main, body(1))
        self.assertEqual(editor.program.main, body(0))
        with self.assertRaises(Broken):
            with editor.trial() as outer:
                outer.accept()
                with editor.trial() as inner:
                    inner.accept()
                    editor.replace("main", body(5))
                raise Broken()
        self.assertEqual(editor.program.main, body(0))
        editor.redo()
        self.assertEqual(editor.program.main, body(1))

    def test_accepting_outside(self):
        editor = Editor(Program([("x", 0, 0)], body(0)))
        with editor.trial() as trial:
            editor.replace("main", body(1))
        self.assertIsNone(trial.accept())
        self.assertEqual(editor.program.main, body(0))
        self.failing(NothingToUndo, editor.undo)
        early = editor.trial()
        early.accept()
        editor.replace("main", body(2))
        with early:
            editor.replace("main", body(3))
        self.assertEqual(editor.program.main, body(2))
        editor.undo()
        self.failing(NothingToUndo, editor.undo)

    def test_two_editors(self):
        program = Program([("x", 0, 0)], body(0))
        one, other = Editor(program), Editor(program)
        with one.trial() as trial:
            other.replace("main", body(1))
            one.replace("main", body(2))
            trial.accept()
        self.assertEqual([one.program.main, other.program.main, program.main], [body(2), body(1), body(0)])


if __name__ == "__main__":
    unittest.main()
