"""Tests of answerparts/desks.py: point 20."""

import unittest

from answerparts.desks import Desk, tried
from answerparts.errors import InvalidBlock, InvalidLists, InvalidWorld, NoStatement
from answerparts.programs import Program
from answerparts.reaching import results
from answerparts.worlds import World

BLOCK = (("send", "todo", "ok", "todo", ()), ("tell", "ok", "done"), ("while", "todo", (("move", "todo", "bad"),)))
PROGRAM = Program(("todo", "ok", "bad"), BLOCK, ("ok",))
CALM = World(fails=0)
WILD = World(lost=1, breaks=1, late=True)

TOLD = ("tell", "ok", "failed")
MOVED = ("move", "ok", "bad")


class Left(Exception):
    """Leaves a "with"."""


class DeskCase(unittest.TestCase):
    def setUp(self):
        self.desk = Desk(PROGRAM, CALM)

    def stands(self, program, world=CALM):
        self.assertEqual([self.desk.program, self.desk.world], [program, world])
        for path in program.paths():
            self.assertEqual(self.desk[path], program[path])

    def undone(self, *expected):
        """What undo returns, so often."""
        self.assertEqual([self.desk.undo() for _ in expected], list(expected))

    def redone(self, *expected):
        self.assertEqual([self.desk.redo() for _ in expected], list(expected))


class Edits(DeskCase):
    def test_a_new_desk(self):
        self.stands(PROGRAM)
        self.assertIs(type(self.desk.program), Program)
        self.assertIs(type(self.desk.world), World)
        self.assertEqual(self.desk.fresh, 0)
        self.assertIs(self.desk.undo(), False)
        self.assertIs(self.desk.redo(), False)

    def test_statements(self):
        self.assertEqual(self.desk[(1,)], ("tell", "ok", "done"))
        self.assertEqual(self.desk[(2, 0, 0)], ("move", "todo", "bad"))
        self.desk[(2, 0, 0)] = MOVED
        self.stands(PROGRAM.with_statement((2, 0, 0), MOVED))
        self.assertEqual(self.desk[(2, 0, 0)], MOVED)
        self.desk[(2,)] = ("end",)
        self.stands(PROGRAM.with_statement((2,), ("end",)))
        self.assertEqual(self.desk.program.kept, ("ok",))

    def test_kept_lists(self):
        self.assertIsNone(self.desk.keep("todo"))
        self.stands(Program(PROGRAM.lists, BLOCK, ("todo", "ok")))
        self.desk.keep("bad")
        self.stands(Program(PROGRAM.lists, BLOCK, ("todo", "ok", "bad")))
        self.assertEqual(self.desk.program.kept, ("todo", "ok", "bad"))

    def test_worlds(self):
        self.assertIsNone(self.desk.go_to(WILD))
        self.stands(PROGRAM, WILD)

    def test_properties_are_not_set(self):
        for name in ("program", "world", "fresh"):
            with self.assertRaises(AttributeError):
                setattr(self.desk, name, None)

    def test_the_program_that_was_passed_stays_as_it_is(self):
        self.desk[(1,)] = TOLD
        self.desk.keep("bad")
        self.assertEqual(PROGRAM, Program(("todo", "ok", "bad"), BLOCK, ("ok",)))

    def test_a_desk_is_equal_to_nothing_of_another_kind(self):
        for other in (None, PROGRAM, CALM, 0, "", (PROGRAM, CALM), []):
            self.assertFalse(self.desk == other)
            self.assertTrue(self.desk != other)

    def test_a_desk_is_not_iterated_over(self):
        with self.assertRaises(TypeError):
            iter(self.desk)


class Errors(DeskCase):
    WRONG_PATHS = ((), (3,), (-1,), (0, 0, 0), (2, 0, 1), (2, 1, 0), (2, 0), (True,), (None,))

    def errors(self):
        """Each call with an error of its own."""
        for path in self.WRONG_PATHS:
            with self.assertRaises(NoStatement) as caught:
                self.desk[path]
            self.assertEqual(caught.exception.path, path)
            for statement in (TOLD, ("tell", "none", "nothing")):
                with self.assertRaises(NoStatement) as caught:
                    self.desk[path] = statement
                self.assertEqual(caught.exception.path, path)
        deep = ("while", "ok", (("while", "ok", (("end",),)),))
        for path, statement, wrong in (
            ((1,), ("tell", "none", "done"), (1,)), ((1,), ("tell", "ok", "told"), (1,)),
            ((0,), ("times", 4, ()), (0,)),
            ((0,), ("if", "ok", (), (("move", "ok", "none"),)), (0, 1, 0)), ((2, 0, 0), deep, (2, 0, 0, 0, 0, 0, 0)),
            ((1,), ("while", "ok", (("end",),) * 20), ()),
        ):
            with self.assertRaises(InvalidBlock) as caught:
                self.desk[path] = statement
            self.assertEqual(caught.exception.path, wrong)
        for name in ("ok", "none", "", "todo, ok"):
            with self.assertRaises(InvalidLists):
                self.desk.keep(name)
        with self.assertRaises(InvalidWorld):
            self.desk.go_to(World(lost=4))

    def test_they_change_nothing(self):
        self.errors()
        self.stands(PROGRAM)
        self.assertEqual([self.desk.undo(), self.desk.redo(), self.desk.fresh], [False, False, 0])

    def test_they_change_nothing_that_was_edited(self):
        self.desk[(1,)] = TOLD
        self.errors()
        self.stands(PROGRAM.with_statement((1,), TOLD))
        self.undone(True, False)
        self.stands(PROGRAM)
        self.redone(True, False)

    def test_they_change_nothing_that_can_be_done_again(self):
        self.desk[(1,)] = TOLD
        self.desk.go_to(WILD)
        self.undone(True, True)
        self.errors()
        self.redone(True, True, False)
        self.stands(PROGRAM.with_statement((1,), TOLD), WILD)

    def test_they_work_nothing_out(self):
        self.desk.results()
        self.errors()
        self.desk.results()
        self.assertEqual(self.desk.fresh, 1)

    def test_a_list_that_is_kept_once_more(self):
        self.desk.keep("bad")
        with self.assertRaises(InvalidLists):
            self.desk.keep("bad")
        self.undone(True)
        self.desk.keep("bad")
        self.stands(Program(PROGRAM.lists, BLOCK, ("ok", "bad")))


class Steps(DeskCase):
    def test_one_edit_of_each_kind(self):
        for edit, program, world in (
            (lambda: self.desk.keep("bad"), Program(PROGRAM.lists, BLOCK, ("ok", "bad")), CALM),
            (lambda: self.desk.go_to(WILD), PROGRAM, WILD),
            (lambda: self.desk.__setitem__((1,), TOLD), PROGRAM.with_statement((1,), TOLD), CALM),
        ):
            self.setUp()
            edit()
            self.stands(program, world)
            for _ in range(2):
                self.undone(True)
                self.stands(PROGRAM)
                self.redone(True)
                self.stands(program, world)
            self.redone(False)
            self.undone(True, False)
            self.stands(PROGRAM)

    def test_several_edits(self):
        stood = [(PROGRAM, CALM)]
        for at in range(4):
            if at == 1:
                self.desk.keep("todo")
            elif at == 2:
                self.desk.go_to(WILD)
            else:
                self.desk[(1,)] = (TOLD, None, None, MOVED)[at]
            stood.append((self.desk.program, self.desk.world))
        for program, world in stood[-2::-1]:
            self.undone(True)
            self.stands(program, world)
        self.undone(False, False)
        self.stands(PROGRAM)
        for program, world in stood[1:]:
            self.redone(True)
            self.stands(program, world)
        self.redone(False, False)
        self.stands(*stood[-1])
        self.undone(True, True)
        self.redone(True)
        self.stands(*stood[3])

    def test_an_edit_behind_an_undo(self):
        self.desk[(1,)] = TOLD
        self.desk.keep("bad")
        self.undone(True)
        self.desk.go_to(WILD)
        self.redone(False)
        self.stands(PROGRAM.with_statement((1,), TOLD), WILD)
        self.undone(True)
        self.stands(PROGRAM.with_statement((1,), TOLD))
        self.redone(True)
        self.stands(PROGRAM.with_statement((1,), TOLD), WILD)
        self.undone(True, True, False)
        self.stands(PROGRAM)

    def test_edits_that_change_nothing_are_edits(self):
        self.desk[(1,)] = BLOCK[1]
        self.desk.go_to(World(fails=0))
        self.stands(PROGRAM)
        self.undone(True, True, False)
        self.redone(True)
        self.desk[(1,)] = BLOCK[1]
        self.redone(False)
        self.stands(PROGRAM)

    def test_desks_have_nothing_to_do_with_each_other(self):
        other = Desk(PROGRAM, CALM)
        self.desk[(1,)] = TOLD
        self.desk.results()
        self.assertEqual([other.program, other.undo(), other.fresh], [PROGRAM, False, 0])


class Results(DeskCase):
    def test_they_are_those_of_both(self):
        self.assertEqual(self.desk.results(), results(PROGRAM, CALM))
        self.desk.go_to(WILD)
        self.assertEqual(self.desk.results(), results(PROGRAM, WILD))
        self.desk[(1,)] = TOLD
        self.assertEqual(self.desk.results(), results(PROGRAM.with_statement((1,), TOLD), WILD))
        self.assertIs(type(self.desk.results()), list)

    def fresh(self, expected):
        self.assertEqual(self.desk.results(), results(self.desk.program, self.desk.world))
        self.assertEqual(self.desk.fresh, expected)
        self.assertIs(type(self.desk.fresh), int)

    def test_asked_twice(self):
        self.fresh(1)
        self.fresh(1)

    def test_edits_alone_work_nothing_out(self):
        self.desk[(1,)] = TOLD
        self.desk.keep("bad")
        self.desk.go_to(WILD)
        self.undone(True)
        self.assertEqual(self.desk.fresh, 0)

    def test_behind_an_edit_and_its_undo(self):
        self.fresh(1)
        self.desk[(1,)] = TOLD
        self.undone(True)
        self.fresh(1)
        self.redone(True)
        self.fresh(2)
        # Only what it was worked out for last counts.
        self.undone(True)
        self.fresh(3)
        self.fresh(3)

    def test_behind_edits_to_what_is_equal(self):
        self.fresh(1)
        self.desk[(1,)] = ("tell", "ok", "done")
        self.fresh(1)
        self.desk.go_to(World("each", fails=0))
        self.fresh(1)
        self.desk.go_to(World("whole", fails=0))
        self.fresh(2)
        self.desk.keep("bad")
        self.fresh(3)
        self.desk[(0,)] = ("keyed",) + BLOCK[0][1:]
        self.desk[(0,)] = BLOCK[0]
        self.fresh(3)

    def test_the_returned_list_is_the_callers(self):
        expected = results(PROGRAM, CALM)
        found = self.desk.results()
        found.append("more")
        self.assertEqual(self.desk.results(), expected)
        self.desk.results().clear()
        self.assertEqual(self.desk.results(), expected)
        self.assertEqual(self.desk.fresh, 1)

    def test_the_example_of_the_interface(self):
        block = (("send", "todo", "ok", "todo", ()), ("tell", "ok", "done"))
        desk = Desk(Program(("todo", "ok"), block), World(fails=0))
        first = desk.results()
        desk[(1,)] = ("tell", "ok", "failed")
        self.assertEqual(
            [first, desk.results(), desk.undo(), desk.results(), desk.fresh],
            [[(1, "done")], [(1, "failed")], True, [(1, "done")], 3],
        )


class Withs(DeskCase):
    def test_several_edits_and_one_undo(self):
        with self.desk:
            self.desk[(1,)] = TOLD
            self.assertEqual(self.desk[(1,)], TOLD)
            self.desk.keep("bad")
            self.desk.go_to(WILD)
            self.assertEqual(self.desk.world, WILD)
        program = Program(PROGRAM.lists, BLOCK, ("ok", "bad")).with_statement((1,), TOLD)
        self.stands(program, WILD)
        self.undone(True)
        self.stands(PROGRAM)
        self.undone(False)
        self.redone(True, False)
        self.stands(program, WILD)

    def test_with_edits_ahead_and_behind(self):
        self.desk.go_to(WILD)
        with self.desk:
            self.desk[(1,)] = TOLD
            self.desk[(1,)] = MOVED
        self.desk.keep("bad")
        moved = PROGRAM.with_statement((1,), MOVED)
        self.undone(True)
        self.stands(moved, WILD)
        self.undone(True)
        self.stands(PROGRAM, WILD)
        self.undone(True, False)
        self.stands(PROGRAM)
        self.redone(True, True)
        self.stands(moved, WILD)
        self.redone(True, False)

    def test_it_gives_the_desk(self):
        with self.desk as held:
            self.assertIs(held, self.desk)

    def test_without_edits_it_is_none(self):
        with self.desk:
            pass
        self.undone(False)
        self.desk[(1,)] = TOLD
        self.undone(True)
        with self.desk:
            self.desk.results()
        self.undone(False)
        self.redone(True, False)
        self.stands(PROGRAM.with_statement((1,), TOLD))

    def test_what_can_be_done_again_ends_with_the_edits(self):
        self.desk[(1,)] = TOLD
        self.undone(True)
        with self.desk:
            self.desk[(1,)] = MOVED
        self.redone(False)
        self.undone(True, False)
        self.stands(PROGRAM)

    def test_an_error_takes_all_edits_back(self):
        self.desk.go_to(WILD)
        self.desk[(1,)] = TOLD
        self.undone(True)
        for error in (Left, KeyboardInterrupt, ValueError):
            with self.assertRaises(error):
                with self.desk:
                    self.desk[(1,)] = MOVED
                    self.desk.keep("bad")
                    self.desk.go_to(CALM)
                    raise error
            self.stands(PROGRAM, WILD)
        # What can be undone and done again stays.
        self.redone(True, False)
        self.stands(PROGRAM.with_statement((1,), TOLD), WILD)
        self.undone(True, True, False)
        self.stands(PROGRAM)

    def test_errors_of_edits(self):
        for path, statement, error in (
            ((9,), TOLD, NoStatement), ((1,), ("tell", "none", "done"), InvalidBlock),
        ):
            with self.assertRaises(error):
                with self.desk:
                    self.desk.keep("bad")
                    self.desk[path] = statement
            self.stands(PROGRAM)
            self.undone(False)
        with self.assertRaises(InvalidLists):
            with self.desk:
                self.desk[(1,)] = TOLD
                self.desk.keep("ok")
        self.stands(PROGRAM)
        self.undone(False)

    def test_an_error_that_does_not_leave_it(self):
        with self.desk:
            self.desk[(1,)] = TOLD
            with self.assertRaises(NoStatement):
                self.desk[(9,)] = TOLD
            self.desk.keep("bad")
        self.stands(Program(PROGRAM.lists, BLOCK, ("ok", "bad")).with_statement((1,), TOLD))
        self.undone(True, False)

    def test_an_error_without_edits(self):
        self.desk[(1,)] = TOLD
        self.undone(True)
        with self.assertRaises(Left):
            with self.desk:
                raise Left
        self.stands(PROGRAM)
        self.undone(False)
        self.redone(True)

    def test_undo_and_redo_within_it(self):
        self.desk.go_to(WILD)
        self.desk[(1,)] = TOLD
        self.undone(True)
        with self.desk:
            self.assertIs(self.desk.undo(), False)
            self.assertIs(self.desk.redo(), False)
            self.stands(PROGRAM, WILD)
            self.desk[(1,)] = MOVED
            self.assertIs(self.desk.undo(), False)
            self.assertIs(self.desk.redo(), False)
            self.stands(PROGRAM.with_statement((1,), MOVED), WILD)
        self.undone(True, True, False)
        self.stands(PROGRAM)
        with self.desk:
            self.assertIs(self.desk.redo(), False)
        self.redone(True, True, False)
        self.stands(PROGRAM.with_statement((1,), MOVED), WILD)

    def test_undo_and_redo_behind_it(self):
        for error in (None, Left):
            try:
                with self.desk:
                    self.desk.go_to(WILD)
                    if error:
                        raise error
            except Left:
                pass
            self.desk[(1,)] = TOLD
            self.undone(True)
            self.redone(True)

    def test_results_within_it(self):
        with self.assertRaises(Left):
            with self.desk:
                self.desk[(1,)] = TOLD
                self.assertEqual(self.desk.results(), [(1, "failed")])
                raise Left
        self.assertEqual([self.desk.results(), self.desk.fresh], [[(1, "done")], 2])

    def test_leaving_it_without_an_error(self):
        for _ in range(2):
            with self.desk:
                self.desk[(1,)] = TOLD
                break
        self.stands(PROGRAM.with_statement((1,), TOLD))
        self.undone(True, False)


class Tried(DeskCase):
    def test_edits(self):
        edits = [((1,), TOLD), ((0,), ("keyed",) + BLOCK[0][1:])]
        program = PROGRAM.with_statement(*edits[0]).with_statement(*edits[1])
        found = tried(self.desk, edits)
        self.assertIs(type(found), list)
        self.assertEqual(found, results(program, CALM))
        self.assertEqual(found, [(1, "failed")])
        self.stands(program)
        self.assertEqual(self.desk.fresh, 1)
        self.assertEqual(edits, [((1,), TOLD), ((0,), ("keyed",) + BLOCK[0][1:])])
        self.undone(True)
        self.stands(PROGRAM)
        self.undone(False)
        self.redone(True)
        self.stands(program)

    def test_edits_one_behind_the_other(self):
        tried(self.desk, [((2,), ("while", "ok", (MOVED,))), ((2, 0, 0), TOLD)])
        self.assertEqual(self.desk[(2,)], ("while", "ok", (TOLD,)))
        with self.assertRaises(NoStatement):
            tried(self.desk, [((2,), ("end",)), ((2, 0, 0), TOLD)])
        self.assertEqual(self.desk[(2,)], ("while", "ok", (TOLD,)))

    def test_no_edits(self):
        self.desk[(1,)] = TOLD
        self.undone(True)
        self.assertEqual(tried(self.desk, []), [(1, "done")])
        self.undone(False)
        self.redone(True)

    def test_its_errors(self):
        self.desk[(1,)] = TOLD
        self.undone(True)
        for edits, error, path in (
            ([((1,), MOVED), ((9,), MOVED)], NoStatement, (9,)),
            ([((9,), MOVED), ((1,), MOVED)], NoStatement, (9,)),
            ([((1,), MOVED), ((0,), ("tell", "none", "done")), ((9,), MOVED)], InvalidBlock, (0,)),
        ):
            with self.assertRaises(error) as caught:
                tried(self.desk, edits)
            self.assertEqual(caught.exception.path, path)
            self.stands(PROGRAM)
            self.undone(False)
        self.assertEqual(self.desk.fresh, 0)
        self.redone(True, False)
        self.stands(PROGRAM.with_statement((1,), TOLD))

    def test_the_returned_list_and_the_edits_are_the_callers(self):
        edits = [((1,), TOLD)]
        found = tried(self.desk, edits)
        found.clear()
        edits.clear()
        self.assertEqual([self.desk.results(), self.desk.fresh], [[(1, "failed")], 1])
        self.undone(True)
        self.redone(True)
        self.assertEqual(self.desk[(1,)], TOLD)

    def test_tried_again(self):
        for _ in range(3):
            self.assertEqual(tried(self.desk, [((1,), TOLD)]), [(1, "failed")])
        self.assertEqual(self.desk.fresh, 1)
        self.undone(True, True, True, False)


if __name__ == "__main__":
    unittest.main()
