"""Tests of answerparts/programs.py: point 3, the faults in a block."""

import unittest

from answerparts.errors import InvalidBlock
from answerparts.programs import Program

LISTS = ("a", "b", "c")
END = ("end",)

# The forms with lists, with the places where the lists stand.
FORMS = (
    (("send", "a", "b", "c", ()), (1, 2, 3)),
    (("keyed", "a", "b", "c", ()), (1, 2, 3)),
    (("look", "a", "b", "c", ()), (1, 2, 3)),
    (("move", "a", "b"), (1, 2)),
    (("part", "a", "b"), (1, 2)),
    (("tell", "a", "done"), (1,)),
    (("if", "a", (), ()), (1,)),
    (("while", "a", ()), (1,)),
)

# The forms with blocks; "block" stands for one, with its number in the statement.
AROUND = (
    (("send", "a", "b", "c", "block"), 0),
    (("keyed", "a", "b", "c", "block"), 0),
    (("look", "a", "b", "c", "block"), 0),
    (("if", "a", "block", ()), 0),
    (("if", "a", (), "block"), 1),
    (("while", "a", "block"), 0),
    (("times", 2, "block"), 0),
)


def around(form, block):
    return tuple(block if part == "block" else part for part in form)


class BlockCase(unittest.TestCase):
    def right(self, *block):
        with self.subTest(block=block):
            self.assertEqual(Program(LISTS, block).block, block)

    def wrong(self, path, *block):
        with self.subTest(path=path, block=block):
            with self.assertRaises(InvalidBlock) as caught:
                Program(LISTS, block)
            self.assertEqual(caught.exception.path, path)
            self.assertIs(type(caught.exception.path), tuple)


class OneFault(BlockCase):
    def test_each_form(self):
        for form, _ in FORMS:
            self.right(form)
            self.right(END, form)
        self.right(END)
        for form, _ in AROUND:
            for inner, _ in FORMS:
                self.right(around(form, (inner, END)))

    def test_the_same_list_in_several_places(self):
        self.right(("send", "a", "a", "a", ()), ("look", "b", "b", "a", ()), ("move", "c", "c"), ("part", "a", "a"))

    def test_a_list_that_the_program_does_not_have(self):
        for form, places in FORMS:
            for place in places:
                for name in ("d", "A", "", "ab", "done", None, 0):
                    faulty = form[:place] + (name,) + form[place + 1:]
                    self.wrong((0,), faulty)
                    self.wrong((1,), END, faulty, END)

    def test_the_word_of_a_tell(self):
        self.right(("tell", "a", "done"), ("tell", "b", "failed"))
        for word in ("", "Done", "fail", "done ", "lost", "a", None, 0, True):
            self.wrong((0,), ("tell", "a", word))
            self.wrong((2,), END, END, ("tell", "c", word))

    def test_the_number_of_a_times(self):
        for number in (0, 1, 2, 3):
            self.right(("times", number, (END,)))
        for number in (-1, -3, 4, 5, 100, 10 ** 30, -10 ** 30, True, False, None, "1", 1.0):
            self.wrong((0,), ("times", number, (END,)))
            self.wrong((1,), END, ("times", number, ()))

    def test_statements_around(self):
        for form, number in AROUND:
            for outer, at in AROUND:
                two = around(outer, (around(form, (END,)),))
                self.right(two)
                for outermost, first in AROUND:
                    path = (1, first, 0, at, 0, number, 0)
                    self.wrong(path, END, around(outermost, (two,)))

    def test_two_around_and_no_block_below(self):
        self.right(("while", "a", (("while", "a", (("while", "a", ()),)),)))
        self.wrong((0,) + (0, 0) * 3, ("while", "a", (("while", "a", (("while", "a", (END,)),)),)))

    def test_far_too_many_statements_around(self):
        statement = END
        for _ in range(5000):
            statement = ("times", 1, (statement,))
        with self.assertRaises(InvalidBlock) as caught:
            Program(LISTS, (statement,))
        self.assertEqual(caught.exception.path, (0, 0, 0, 0, 0, 0, 0))

    def test_twenty_statements(self):
        self.right(*(END,) * 20)
        self.right(("while", "a", (END,) * 19))
        self.right(("if", "a", (END,) * 9, (END,) * 9), END)
        self.right(("send", "a", "b", "c", (("times", 1, (END,) * 9),)), ("look", "a", "b", "c", (END,) * 8))

    def test_twenty_one_statements(self):
        self.wrong((), *(END,) * 21)
        self.wrong((), ("while", "a", (END,) * 20))
        self.wrong((), ("if", "a", (END,) * 10, (END,) * 9), END)
        self.wrong((), ("send", "a", "b", "c", (("times", 1, (END,) * 9),)), ("look", "a", "b", "c", (END,) * 9))
        self.wrong((), *(END,) * 500)


class SeveralFaults(BlockCase):
    def test_the_first_in_the_same_block(self):
        self.wrong((1,), END, ("move", "a", "x"), ("tell", "a", "x"))
        self.wrong((1,), END, ("tell", "a", "x"), ("move", "a", "x"))
        self.wrong((0,), ("times", 4, ()), ("move", "x", "x"))

    def test_a_statement_comes_ahead_of_those_in_its_blocks(self):
        inner = ("move", "a", "x")
        self.wrong((0,), ("times", 4, (inner,)))
        self.wrong((0,), ("if", "x", (inner,), (inner,)))
        self.wrong((0,), ("send", "a", "b", "x", (inner,)))
        self.wrong((0, 0, 0), ("while", "a", (("while", "x", (inner,)),)))

    def test_those_in_its_blocks_come_ahead_of_the_next_statement(self):
        inner = ("move", "a", "x")
        for form, number in AROUND:
            self.wrong((0, number, 1), around(form, (END, inner)), ("tell", "a", "x"))
            self.wrong((0, number, 0, 0, 0), around(form, (("times", 1, (inner,)), inner)), inner)

    def test_the_first_block_comes_ahead_of_the_second_one(self):
        inner = ("tell", "a", "x")
        self.wrong((0, 0, 1), ("if", "a", (END, inner), (inner,)))
        self.wrong((0, 1, 0), ("if", "a", (END, END), (inner,)))
        self.wrong((0, 0, 0, 0, 0), ("if", "a", (("if", "b", (inner,), ()),), (inner,)))
        self.wrong((0, 0, 0, 1, 0), ("if", "a", (("if", "b", (END,), (inner,)),), (inner,)))

    def test_too_many_around_and_other_faults(self):
        deep = ("while", "a", (("while", "a", (("while", "a", (END,)),)),))
        self.wrong((0, 0, 0, 0, 0, 0, 0), deep, ("move", "x", "a"))
        self.wrong((0,), ("move", "x", "a"), deep)
        self.wrong((0, 0, 0, 0, 0), ("while", "a", (("while", "a", (("while", "x", (END,)),)),)))

    def test_a_fault_comes_ahead_of_too_many_statements(self):
        inner = ("move", "a", "x")
        self.wrong((21,), *(END,) * 21, inner)
        self.wrong((0,), inner, *(END,) * 30)
        self.wrong((30, 1, 0), *(END,) * 30, ("if", "a", (), (inner,)), inner)
        self.wrong((25, 0, 0, 0, 0, 0, 0), *(END,) * 25, ("while", "a", (("while", "a", (("while", "a", (END,)),)),)))


if __name__ == "__main__":
    unittest.main()
