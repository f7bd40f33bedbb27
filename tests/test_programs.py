"""Tests of answerparts/programs.py: points 1 to 3, the lists and what a program can be asked."""

import doctest
import inspect
import itertools
import unittest

from answerparts.errors import InvalidBlock, InvalidLists, NoStatement
from answerparts.programs import Program
from answerparts.worlds import World

# As the document prints it.
EXAMPLE = """
>>> from answerparts.programs import Program
>>> program = Program(("todo", "ok", "bad"), (("while", "todo", (("send", "todo", "ok", "bad", ()),)), ("tell", "ok", "done")))
>>> [list(program.paths()), program[(0, 0, 0)][0], len(program)]
[[(0,), (0, 0, 0), (1,)], 'send', 3]
"""

LISTS = ("a", "b", "c")
MOVE = ("move", "a", "b")
LOOK = ("look", "a", "b", "c", (("part", "b", "c"), ("end",)))
KEYED = ("keyed", "a", "b", "c", (("times", 3, (("tell", "c", "failed"),)),))
IF = ("if", "b", (("while", "a", (MOVE,)), ("end",)), (LOOK, ("tell", "b", "done")))
SEND = ("send", "a", "b", "a", ())
BLOCK = (MOVE, IF, KEYED, ("times", 0, ()), SEND)

# Each statement of BLOCK, written out by hand in reading order.
ROWS = [
    ((0,), MOVE),
    ((1,), IF),
    ((1, 0, 0), ("while", "a", (MOVE,))),
    ((1, 0, 0, 0, 0), MOVE),
    ((1, 0, 1), ("end",)),
    ((1, 1, 0), LOOK),
    ((1, 1, 0, 0, 0), ("part", "b", "c")),
    ((1, 1, 0, 0, 1), ("end",)),
    ((1, 1, 1), ("tell", "b", "done")),
    ((2,), KEYED),
    ((2, 0, 0), ("times", 3, (("tell", "c", "failed"),))),
    ((2, 0, 0, 0, 0), ("tell", "c", "failed")),
    ((3,), ("times", 0, ())),
    ((4,), SEND),
]

WRONG_PATHS = [
    (), (5,), (-1,), (-5,), (0, 0), (0, 0, 0), (1, 0), (1, 0, 2), (1, 2, 0), (1, 1, 2), (1, -1, 0), (1, 1, -1),
    (1, 0, -1), (-4, 0, 0), (1, 0, 0, 0), (1, 0, 0, 0, 1), (1, 0, 0, 1, 0), (1, 0, 0, -1, 0), (1, 0, 0, 0, -1),
    (1, 0, 0, 0, 0, 0), (1, 0, 0, 0, 0, 0, 0), (2, 1, 0), (3, 0, 0), (4, 0, 0), (4, 1, 0), (0, 1, 0),
    (False,), (True,), (True, 0, 0), (1, False, 0), (1, 0, False), (1, True, 0), (10 ** 5000,), (-(10 ** 5000),),
    (0.0,), ("0",), (None,), ((0,),), ([0],), (1, None, 0), (1, 0, None), None, 0, 1, True, "", "0", [0], [1, 0, 0],
]


def the_program():
    return Program(LISTS, BLOCK, ("c",))


class Creation(unittest.TestCase):
    def test_the_example_of_the_interface(self):
        test = doctest.DocTestParser().get_doctest(EXAMPLE, {}, "example", None, None)
        self.assertEqual(len(test.examples), 3)
        self.assertEqual(doctest.DocTestRunner().run(test).failed, 0)

    def test_the_class_is_defined_in_its_file(self):
        self.assertEqual(Program.__module__, "answerparts.programs")
        for name in ("lists", "block", "kept", "paths", "with_statement", "__getitem__", "__len__", "__eq__"):
            self.assertIn(name, vars(Program))

    def test_the_properties(self):
        program = the_program()
        for name, value in (("lists", LISTS), ("block", BLOCK), ("kept", ("c",))):
            with self.subTest(name=name):
                self.assertEqual(getattr(program, name), value)
                self.assertIs(type(getattr(program, name)), tuple)
                with self.assertRaises(AttributeError):
                    setattr(program, name, value)
                self.assertEqual(getattr(program, name), value)

    def test_nothing_is_kept_if_nothing_is_said(self):
        self.assertEqual(Program(LISTS, BLOCK).kept, ())
        self.assertEqual(Program(LISTS, BLOCK, kept=()).kept, ())

    def test_kept_is_in_the_order_of_the_lists(self):
        lists = ("d", "a", "c", "b")
        for many in range(5):
            for kept in itertools.permutations(lists, many):
                expected = tuple(name for name in lists if name in kept)
                self.assertEqual(Program(lists, (), kept).kept, expected)
                self.assertEqual(Program(lists, (), kept=kept).kept, expected)

    def test_the_empty_block(self):
        program = Program(("a",), ())
        self.assertEqual([program.block, len(program), list(program.paths())], [(), 0, []])


class Lists(unittest.TestCase):
    def refused(self, lists, kept=(), block=()):
        with self.subTest(lists=lists, kept=kept), self.assertRaises(InvalidLists):
            Program(lists, block, kept)

    def test_one_to_four_lists(self):
        for many in range(1, 5):
            lists = ("a", "b", "c", "d")[:many]
            self.assertEqual(Program(lists, ()).lists, lists)

    def test_no_list_and_five_lists(self):
        self.refused(())
        self.refused(("a", "b", "c", "d", "e"))
        self.refused(("a", "b", "c", "d", "a"))

    def test_a_list_twice(self):
        self.refused(("a", "a"))
        self.refused(("a", "b", "a"))
        self.refused(("a", "b", "c", "c"))

    def test_names(self):
        for name in ("a", "z", "az", "abcdefgh", "zzzzzzzz", "send", "if"):
            self.assertEqual(Program((name,), (("tell", name, "done"),)).lists, (name,))

    def test_what_is_no_name(self):
        names = (
            "", "abcdefghi", "a" * 100, "A", "aB", "Z", "a1", "0", "a b", " a", "a ", "a\n", "\n", "a_b", "_", "a-b",
            "`", "{", "\u00e4", "\uff41", "a\u0301", "\u0430", "\x00",
        )
        for name in names:
            self.refused((name,))
            self.refused(("a", "b", name))
            self.refused((name, "b"))

    def test_names_of_other_kinds(self):
        for name in (None, 1, True, b"a", ("a",), ["a"], {"a": 1}, 1.5):
            self.refused((name,))
            self.refused(("a", name))

    def test_kept_with_a_list_that_there_is_not(self):
        for kept in (("c",), ("a", "c"), ("c", "a"), ("",), ("A",), ("ab",), (None,), (0,), (("a",),), (["a"],)):
            self.refused(("a", "b"), kept)

    def test_kept_with_one_twice(self):
        for kept in (("a", "a"), ("a", "b", "a"), ("b", "b", "a")):
            self.refused(("a", "b"), kept)

    def test_a_fault_in_the_lists_comes_ahead_of_one_in_the_block(self):
        blocks = ((("move", "a", "x"),), (("tell", "a", "lost"),), (("times", 4, ()),), (("end",),) * 21)
        for block in blocks:
            self.refused(("a", "a"), (), block)
            self.refused((), (), block)
            self.refused(("a", "B"), (), block)
            self.refused(("a",), ("x",), block)
            self.refused(("a",), ("a", "a"), block)
            with self.assertRaises(InvalidBlock):
                Program(("a",), block, ("a",))


class Reading(unittest.TestCase):
    def test_the_number_of_statements(self):
        self.assertEqual(len(the_program()), len(ROWS))
        self.assertEqual(len(Program(LISTS, (MOVE,))), 1)
        self.assertEqual(len(Program(LISTS, (LOOK,))), 3)

    def test_the_statement_at_each_path(self):
        program = the_program()
        for path, statement in ROWS:
            with self.subTest(path=path):
                self.assertEqual(program[path], statement)

    def test_paths_that_there_are_not(self):
        program = the_program()
        for path in WRONG_PATHS:
            with self.subTest(at=WRONG_PATHS.index(path)):
                with self.assertRaises(NoStatement) as caught:
                    program[path]
                self.assertIs(caught.exception.path, path)

    def test_no_path_in_the_empty_block(self):
        for path in ((), (0,), (-1,), (0, 0, 0)):
            with self.subTest(path=path), self.assertRaises(NoStatement):
                Program(("a",), ())[path]

    def test_all_paths_in_reading_order(self):
        self.assertEqual(list(the_program().paths()), [path for path, _ in ROWS])
        self.assertEqual(list(the_program().paths(None)), [path for path, _ in ROWS])
        self.assertEqual(list(the_program().paths(word=None)), [path for path, _ in ROWS])

    def test_the_paths_of_each_word(self):
        words = ("send", "keyed", "look", "move", "part", "tell", "if", "while", "times", "end")
        for word in words:
            expected = [path for path, statement in ROWS if statement[0] == word]
            with self.subTest(word=word):
                self.assertNotEqual(expected, [])
                self.assertEqual(list(the_program().paths(word)), expected)
                self.assertEqual(list(the_program().paths(word=word)), expected)

    def test_the_paths_of_words_that_do_not_occur(self):
        self.assertEqual(list(Program(LISTS, (MOVE,)).paths("send")), [])
        for word in ("", "done", "a", "Send", "ends"):
            self.assertEqual(list(the_program().paths(word)), [])

    def test_paths_is_a_generator(self):
        self.assertTrue(inspect.isgeneratorfunction(Program.paths))
        self.assertTrue(inspect.isgenerator(the_program().paths()))
        program = the_program()
        one, other = program.paths(), program.paths("move")
        self.assertEqual([next(one), next(other), next(one), next(other)], [(0,), (0,), (1,), (1, 0, 0, 0, 0)])

    def test_a_modified_list_of_paths_changes_nothing(self):
        program = the_program()
        paths = list(program.paths())
        paths.clear()
        self.assertEqual(list(program.paths()), [path for path, _ in ROWS])

    def test_repeated_calls_give_equal_results(self):
        program = the_program()
        for _ in range(2):
            self.assertEqual([program[path] for path in program.paths()], [statement for _, statement in ROWS])
            self.assertEqual(program, the_program())


class Equality(unittest.TestCase):
    def test_equal_programs(self):
        pairs = [
            (the_program(), the_program()),
            (Program(("a",), ()), Program(("a",), (), ())),
            (Program(("a", "b"), (), ("a", "b")), Program(("a", "b"), (), ("b", "a"))),
        ]
        for one, other in pairs:
            self.assertIs(one == other, True)
            self.assertIs(one != other, False)

    def test_programs_that_differ(self):
        programs = [
            Program(LISTS, BLOCK),
            Program(LISTS, BLOCK, ("c",)),
            Program(LISTS, BLOCK, ("c", "a")),
            Program(LISTS, BLOCK[:4], ("c",)),
            Program(LISTS, BLOCK[:4] + (("send", "a", "b", "b", ()),), ("c",)),
            Program(("b", "a", "c"), BLOCK, ("c",)),
            Program(("a", "b", "c", "d"), BLOCK, ("c",)),
            Program(LISTS, (("times", 1, ()),)),
            Program(LISTS, (("times", 0, ()),)),
            Program(LISTS, (("if", "a", (), (MOVE,)),)),
            Program(LISTS, (("if", "a", (MOVE,), ()),)),
            Program(LISTS, ()),
        ]
        for one, other in itertools.permutations(programs, 2):
            self.assertIs(one == other, False)
            self.assertIs(one != other, True)

    def test_values_of_other_kinds(self):
        class LikeAll:
            def __eq__(self, other):
                return True

        program = the_program()
        for other in (None, 0, "a", BLOCK, (LISTS, BLOCK, ("c",)), [LISTS, BLOCK, ("c",)], World(), object(), Program):
            self.assertIs(program == other, False)
            self.assertIs(other == program, False)
            self.assertIs(program != other, True)
        self.assertIs(program == LikeAll(), False)


class WithStatement(unittest.TestCase):
    def setUp(self):
        self.program = the_program()

    def tearDown(self):
        self.assertEqual(self.program, the_program())
        self.assertEqual(self.program.block, BLOCK)
        self.assertEqual(list(self.program.paths()), [path for path, _ in ROWS])
        self.assertEqual(len(self.program), len(ROWS))

    def test_another_statement_at_each_path(self):
        for path, old in ROWS:
            for statement in (("move", "c", "c"), ("if", "c", (), (("end",),)), old):
                if len(path) == 5 and statement[0] == "if":
                    continue  # this would have 3 statements around its "end"
                with self.subTest(path=path, statement=statement):
                    changed = self.program.with_statement(path, statement)
                    self.assertEqual(changed[path], statement)
                    self.assertEqual([changed.lists, changed.kept], [LISTS, ("c",)])
                    self.assertIsInstance(changed, Program)
                    for other, kept in ROWS:
                        if other[: len(path)] != path and path[: len(other)] != other:
                            self.assertEqual(changed[other], kept)
                    self.assertEqual(changed.with_statement(path, old), self.program)

    def test_the_block_written_out(self):
        changed = self.program.with_statement((1, 1, 0, 0, 1), ("tell", "a", "failed"))
        look = ("look", "a", "b", "c", (("part", "b", "c"), ("tell", "a", "failed")))
        other = ("if", "b", (("while", "a", (MOVE,)), ("end",)), (look, ("tell", "b", "done")))
        self.assertEqual(changed, Program(LISTS, (MOVE, other, KEYED, ("times", 0, ()), SEND), ("c",)))
        self.assertEqual(len(changed), len(ROWS))

    def test_the_paths_are_those_of_the_other_program(self):
        changed = self.program.with_statement((1,), ("while", "a", (SEND,)))
        paths = [(0,), (1,), (1, 0, 0), (2,), (2, 0, 0), (2, 0, 0, 0, 0), (3,), (4,)]
        self.assertEqual([list(changed.paths()), len(changed)], [paths, 8])
        self.assertEqual(list(changed.paths("send")), [(1, 0, 0), (4,)])

    def test_wrong_paths(self):
        for path in WRONG_PATHS:
            for statement in (("end",), ("move", "a", "x"), ("times", 4, ())):
                with self.subTest(at=WRONG_PATHS.index(path), statement=statement):
                    with self.assertRaises(NoStatement) as caught:
                        self.program.with_statement(path, statement)
                    self.assertIs(caught.exception.path, path)

    def refused(self, path, statement, fault):
        with self.subTest(path=path, statement=statement):
            with self.assertRaises(InvalidBlock) as caught:
                self.program.with_statement(path, statement)
            self.assertEqual(caught.exception.path, fault)

    def test_wrong_statements(self):
        for path, _ in ROWS:
            self.refused(path, ("move", "a", "x"), path)
            self.refused(path, ("tell", "a", "lost"), path)
            self.refused(path, ("times", 4, ()), path)
            self.refused(path, ("times", True, ()), path)

    def test_a_fault_within_the_statement(self):
        self.refused((1,), ("if", "a", (MOVE,), (MOVE, ("part", "x", "a"))), (1, 1, 1))
        self.refused((1, 1, 0), ("while", "a", (("end",), ("times", -1, ()))), (1, 1, 0, 0, 1))

    def test_too_many_statements_around(self):
        self.refused((1, 0, 0, 0, 0), ("while", "a", (("end",),)), (1, 0, 0, 0, 0, 0, 0))
        self.refused((2, 0, 0), ("while", "a", (("while", "a", (MOVE,)),)), (2, 0, 0, 0, 0, 0, 0))

    def test_too_many_statements(self):
        self.assertEqual(len(self.program.with_statement((4,), ("times", 1, (MOVE,) * 6))), 20)
        self.refused((4,), ("times", 1, (MOVE,) * 7), ())
        self.refused((4,), ("times", 1, (MOVE,) * 7 + (("end",), ("move", "x", "a"))), (4, 0, 8))


if __name__ == "__main__":
    unittest.main()
