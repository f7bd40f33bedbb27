"""Tests of answerparts/mends.py: point 13, mended programs and the fewest mends."""

import doctest
import itertools
import unittest

from answerparts.errors import InvalidLists, NoStatement
from answerparts.mends import fewest, mended
from answerparts.programs import Program
from answerparts.reaching import results
from answerparts.worlds import World
from catalogue import (
    DONE_0, DONE_1, DONE_2, FAILED_0, FAILED_1, KEYED, NONE_0, RETRY, RIGHT, SEND, SIMPLE, SIMPLE_KEYED, TELLS, THRICE,
    of,
)
from draws import Draws, drawn_program, drawn_world

# As the document prints it.
EXAMPLE = """
>>> from answerparts.mends import fewest
>>> from answerparts.programs import Program
>>> from answerparts.worlds import World
>>> block = (("while", "todo", (("send", "todo", "ok", "todo", ()),)), ("tell", "ok", "done"))
>>> [fewest(Program(("todo", "ok"), block), World(lost=1), [(1, "done")]), fewest(Program(("todo", "ok"), block), World(), [(1, "done")])]
[([(0, 0, 0)], []), ([], [])]
"""

# "send" in the block of a "send", in both blocks of an "if" and in a "times", and statements of other words.
INNER = ("send", "a", "a", "a", (("send", "b", "b", "b", ()),))
BLOCK = (
    ("send", "a", "b", "c", (INNER, ("keyed", "a", "b", "c", ()))),
    ("if", "a", (("send", "a", "b", "b", ()),), (("look", "a", "b", "c", ()), ("send", "a", "c", "c", ()))),
    ("times", 2, (("send", "c", "a", "b", (("end",),)),)),
    ("tell", "a", "done"),
)
SEND_PATHS = [(0,), (0, 0, 0), (0, 0, 0, 0, 0), (1, 0, 0), (1, 1, 1), (2, 0, 0)]
WRONG_PATHS = [
    (0, 0, 1), (1,), (1, 1, 0), (2,), (2, 0, 0, 0, 0), (3,), (), (4,), (-1,), (0, 0), (0, 1, 0), (False,), (0, 0, True),
    None, 0, "0", [0], (10 ** 30,), ("send",),
]


def the_program():
    return Program(("a", "b", "c"), BLOCK, ("b",))


class Mended(unittest.TestCase):
    def test_no_mend(self):
        self.assertEqual(mended(the_program(), [], []), the_program())
        self.assertEqual(mended(of(), [], []), of())

    def test_each_path_alone(self):
        for path in SEND_PATHS:
            program = the_program()
            changed = mended(program, [path], [])
            self.assertIsInstance(changed, Program)
            self.assertEqual([changed.lists, changed.kept], [program.lists, program.kept])
            self.assertEqual(changed, program.with_statement(path, ("keyed",) + program[path][1:]))
            self.assertEqual([other for other in program.paths("send") if other != path], list(changed.paths("send")))
            self.assertEqual(program, the_program())

    def test_several_paths_in_any_order(self):
        for many in (2, 3, 6):
            for paths in itertools.permutations(SEND_PATHS, many):
                changed = mended(the_program(), list(paths), [])
                self.assertEqual(list(changed.paths("send")), [path for path in SEND_PATHS if path not in paths])
                self.assertEqual(list(changed.paths()), list(the_program().paths()))
                self.assertEqual(changed, mended(the_program(), sorted(paths), []))

    def test_a_send_in_the_block_of_a_send(self):
        program = of(("send", "a", "b", "c", (("send", "a", "b", "c", (("send", "a", "b", "c", ()),)),)))
        deep = ("keyed", "a", "b", "c", (("keyed", "a", "b", "c", (("keyed", "a", "b", "c", ()),)),))
        paths = [(0,), (0, 0, 0), (0, 0, 0, 0, 0)]
        for order in itertools.permutations(paths):
            self.assertEqual(mended(program, list(order), []), of(deep))
        self.assertEqual(mended(program, [(0, 0, 0)], []).block[0][4][0][:4], ("keyed", "a", "b", "c"))

    def test_a_path_twice(self):
        self.assertEqual(mended(the_program(), [(0,), (0,)], []), mended(the_program(), [(0,)], []))

    def test_lists(self):
        for lists, kept in (
            ([], ("b",)), (["b"], ("b",)), (["a"], ("a", "b")), (["c"], ("b", "c")), (["c", "a"], ("a", "b", "c")),
            (["c", "b"], ("b", "c")), (["a", "b", "c"], ("a", "b", "c")),
        ):
            changed = mended(the_program(), [], lists)
            self.assertEqual([changed.kept, changed.block, changed.lists], [kept, BLOCK, ("a", "b", "c")])

    def test_paths_and_lists_together(self):
        changed = mended(the_program(), [(1, 1, 1), (0,)], ["c"])
        self.assertEqual([changed.kept, list(changed.paths("keyed"))], [("b", "c"), [(0,), (0, 0, 1), (1, 1, 1)]])

    def test_wrong_paths(self):
        for path in WRONG_PATHS:
            for paths in ([path], [(0,), path], [path, (0,)], [(0,), path, (9,)]):
                for lists in ([], ["c"], ["x"], ["c", "c"], ["b", "b"]):
                    with self.subTest(paths=paths, lists=lists):
                        with self.assertRaises(NoStatement) as caught:
                            mended(the_program(), paths, lists)
                        self.assertIs(caught.exception.path, path)

    def test_a_keyed_statement_is_no_send(self):
        with self.assertRaises(NoStatement) as caught:
            mended(SIMPLE_KEYED, [(0,)], [])
        self.assertEqual(caught.exception.path, (0,))

    def test_wrong_lists(self):
        wrong = (["x"], [""], ["c", "x"], ["x", "c"], ["c", "c"], ["b", "b"], ["a", "c", "a"], ["A"], ["done"], ["ab"])
        for lists in wrong:
            for paths in ([], [(0,)], [(0,), (0, 0, 0)]):
                with self.subTest(paths=paths, lists=lists), self.assertRaises(InvalidLists):
                    mended(the_program(), paths, lists)

    def test_arguments_are_as_they_were(self):
        program, paths, lists = the_program(), [(2, 0, 0), (0,)], ["c", "b"]
        changed = mended(program, paths, lists)
        self.assertEqual([program, paths, lists], [the_program(), [(2, 0, 0), (0,)], ["c", "b"]])
        paths.clear()
        lists.append("x")
        self.assertEqual(changed, mended(program, [(2, 0, 0), (0,)], ["c", "b"]))


class Fewest(unittest.TestCase):
    def least_number(self, program, world, wanted):
        """The least number of mends, by all of them; the first list counts, too."""
        changes = [(path, None) for path in program.paths("send")] + [(None, name) for name in program.lists]
        for many in range(len(changes) + 1):
            for some in itertools.combinations(changes, many):
                paths = [path for path, name in some if name is None]
                lists = [name for path, name in some if name is not None]
                if all(result in wanted for result in results(mended(program, paths, lists), world)):
                    return many
        return None

    def found(self, program, world, wanted):
        found = fewest(program, world, wanted)
        about = (program.lists, program.block, program.kept, vars(world), wanted, found)
        number = self.least_number(program, world, wanted)
        if found is None:
            self.assertIsNone(number, about)
            return None
        self.assertEqual([type(found), type(found[0]), type(found[1])], [tuple, list, list], about)
        paths, lists = found
        self.assertEqual(paths, [path for path in program.paths("send") if path in paths], about)
        self.assertEqual(lists, [name for name in program.lists if name in lists], about)
        self.assertEqual(len(paths) + len(lists), number, about)
        for result in results(mended(program, paths, lists), world):
            self.assertIn(result, wanted, about)
        return found

    def test_the_example_of_the_interface(self):
        test = doctest.DocTestParser().get_doctest(EXAMPLE, {}, "example", None, None)
        self.assertEqual(len(test.examples), 5)
        self.assertEqual(doctest.DocTestRunner().run(test).failed, 0)

    def test_no_mend_is_needed(self):
        for program, world, wanted in (
            (SIMPLE, World(), RIGHT),
            (SIMPLE, World(), RIGHT + [DONE_2, NONE_0]),
            (SIMPLE_KEYED, World(breaks=None), RIGHT),
            (of(("while", "a", ())), World(), []),
            (of(), World(), [NONE_0]),
        ):
            self.assertEqual(self.found(program, world, wanted), ([], []))

    def test_one_path_is_needed(self):
        self.assertEqual(self.found(RETRY, World(lost=1), [DONE_1]), ([(0, 0, 0)], []))
        self.assertEqual(self.found(RETRY, World(lost=None, late=True), [DONE_1]), ([(0, 0, 0)], []))
        # Here a list would do as well.
        self.assertEqual(sum(len(rows) for rows in self.found(SIMPLE, World(breaks=None), RIGHT)), 1)

    def test_one_list_is_needed(self):
        # Two paths would do as well: what was done must not be done again behind a break.
        done = (("part", "a", "c"), ("send", "a", "b", "b", ()), ("send", "c", "b", "b", ()), TELLS[0])
        self.assertEqual(results(of(*done), World(breaks=1, fails=0)), [DONE_1, DONE_2])
        self.assertEqual(self.found(of(*done), World(breaks=1, fails=0), [DONE_1]), ([], ["b"]))
        self.assertEqual(self.found(of(*done), World(breaks=None, fails=0), [DONE_1]), ([], ["b"]))

    def test_lists_without_paths(self):
        # Behind a break, items in the list "a" are told as failed if others are in the list "c".
        block = (("move", "a", "b"), ("part", "b", "c"), ("tell", "b", "done"), ("tell", "c", "done"))
        program = of(("if", "c", (("tell", "a", "failed"),), ()), ("tell", "b", "done"), *block, kept=("c",))
        self.assertEqual(results(program, World(breaks=1)), [DONE_0, FAILED_0])
        self.assertEqual(self.found(program, World(breaks=1), [DONE_0]), ([], ["b"]))
        self.assertEqual(self.found(program, World(breaks=None, late=True), [DONE_0]), ([], ["b"]))

    def test_a_path_and_a_list_are_needed(self):
        retry = ("while", "a", (("send", "a", "b", "a", ()),))
        block = (retry, ("part", "b", "c"), ("tell", "b", "done"), ("tell", "c", "done"))
        program = of(("if", "c", (("tell", "a", "failed"),), ()), ("tell", "b", "done"), *block, kept=("c",))
        for late in (False, True):
            world = World(lost=1, breaks=1, fails=0, late=late)
            self.assertEqual(self.found(program, world, [DONE_1]), ([(2, 0, 0)], ["b"]))
            self.assertEqual(self.found(program, world, [DONE_1, FAILED_1]), ([(2, 0, 0)], []))

    def test_several_paths_are_needed(self):
        # The third ask has no items if one answer at most is lost.
        world = World(lost=1, fails=0)
        self.assertEqual(self.found(THRICE, world, [DONE_1]), ([(0,), (1,)], []))
        self.assertEqual(self.found(THRICE, World(lost=2, fails=0), [DONE_1]), ([(0,), (1,), (2,)], []))

    def test_nothing_helps(self):
        self.assertIsNone(self.found(SIMPLE, World(lost=1), RIGHT))
        self.assertIsNone(self.found(SIMPLE, World(), [DONE_1]))
        self.assertIsNone(self.found(SIMPLE_KEYED, World(), []))
        self.assertIsNone(self.found(of(("tell", "a", "done")), World(breaks=None), RIGHT))

    def test_drawn_programs(self):
        mends = 0
        for seed in range(700):
            draws = Draws(800000 + seed)
            program, world = drawn_program(draws, 4), drawn_world(draws)
            sends = list(program.paths("send"))
            if not sends or len(sends) + len(program.lists) > 6:
                continue
            # What a drawn mend gives is wanted, so that some mend helps.
            helping = mended(program, list(draws.some_of(sends)), list(draws.some_of(program.lists)))
            wanted = results(helping, world)
            found = self.found(program, world, wanted)
            self.assertIsNotNone(found)
            mends += len(found[0]) + len(found[1])
            self.found(program, world, wanted[1:])
        self.assertGreater(mends, 40)

    def test_arguments_are_as_they_were(self):
        program, world, wanted = of(SEND, *TELLS), World(breaks=None), [DONE_1, FAILED_0]
        found = fewest(program, world, wanted)
        self.assertEqual([program, world, wanted], [of(SEND, *TELLS), World(breaks=None), [DONE_1, FAILED_0]])
        copies = (list(found[0]), list(found[1]))
        found[0].append((7,))
        found[1].append("x")
        self.assertEqual(fewest(program, world, wanted), copies)
        self.assertEqual(mended(program, [(0,)], []), of(KEYED, *TELLS))

    def test_the_functions_stand_in_their_file(self):
        self.assertEqual([mended.__module__, fewest.__module__], ["answerparts.mends"] * 2)


if __name__ == "__main__":
    unittest.main()
