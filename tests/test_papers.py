"""Tests of answerparts/papers.py: points 14, 15 and 17, papers whose rows were all written out by hand."""

import unittest

from answerparts.errors import IsPossible
from answerparts.papers import holds, paper
from answerparts.programs import Program
from answerparts.worlds import World

# Shadows, by list, state, and what they are pending of.
A0, A1, A2, B0, B1, B2, C0 = (
    ("a", 0, ()), ("a", 1, ()), ("a", 2, ()), ("b", 0, ()), ("b", 1, ()), ("b", 2, ()), ("c", 0, ()),
)
A0_SEND, A0_KEYED, TOLD = ("a", 0, ("send",)), ("a", 0, ("keyed",)), (None, 0, ())

SEND, KEYED, LOOK = ("send", "a", "b", "c", ()), ("keyed", "a", "b", "c", ()), ("look", "a", "b", "c", ())


def item(name, count=0, known=False, sends=0, keyed=False, word=None):
    return (name, count, known, sends, keyed, word)


IN_A, IN_B, IN_C = item("a"), item("b"), item("c")
DONE_A, DONE_B = item("a", 1), item("b", 1)


def of(*block, kept=(), lists=("a", "b", "c")):
    return Program(lists, block, kept)


def rows_at(path, rounds, left, *pairs):
    """Rows of one place, by the others and the watched item."""
    return [(path, rounds, left, others, watched) for others, watched in pairs]


# Programs, worlds, and all rows of their papers, ascending.
PAPERS = {
    "no statements": (of(), World(lost=2, breaks=None, late=True), [
        ((), (), (2, None, None), (), IN_A),
        ((), (), (2, None, None), (A0,), IN_A),
    ]),
    "a tell": (of(("tell", "a", "done")), World(fails=0), [
        ((), (), (0, 0, 0), (), item(None, word="done")),
        ((), (), (0, 0, 0), (TOLD,), item(None, word="done")),
        ((0,), (), (0, 0, 0), (), IN_A),
        ((0,), (), (0, 0, 0), (A0,), IN_A),
    ]),
    "a tell and a break": (of(("tell", "a", "failed")), World("whole", lost=3, breaks=1), [
        *rows_at((), (), (3, 0, None), ((), item(None, word="failed")), ((TOLD,), item(None, word="failed"))),
        *rows_at((), (), (3, 1, None), ((), item(None, word="failed")), ((TOLD,), item(None, word="failed"))),
        *rows_at((0,), (), (3, 0, None), ((), IN_A), ((A0,), IN_A)),
        *rows_at((0,), (), (3, 1, None), ((), IN_A), ((A0,), IN_A)),
    ]),
    "a tell of none": (of(("tell", "b", "done")), World(fails=0), [
        *rows_at((), (), (0, 0, 0), ((), IN_A), ((A0,), IN_A)),
        *rows_at((0,), (), (0, 0, 0), ((), IN_A), ((A0,), IN_A)),
    ]),
    "a send": (of(SEND), World(fails=1), [
        ((), (), (0, 0, 0), (), IN_C),
        ((), (), (0, 0, 0), (B1,), IN_C),
        ((), (), (0, 0, 0), (B1, C0), DONE_B),
        ((), (), (0, 0, 0), (B1, C0), IN_C),
        ((), (), (0, 0, 0), (C0,), DONE_B),
        ((), (), (0, 0, 0), (C0,), IN_C),
        ((), (), (0, 0, 1), (), DONE_B),
        ((), (), (0, 0, 1), (B1,), DONE_B),
        ((0,), (), (0, 0, 1), (), IN_A),
        ((0,), (), (0, 0, 1), (A0,), IN_A),
    ]),
    "a send, whole": (of(SEND), World("whole", fails=1), [
        ((), (), (0, 0, 0), (), IN_C),
        ((), (), (0, 0, 0), (C0,), IN_C),
        ((), (), (0, 0, 1), (), DONE_B),
        ((), (), (0, 0, 1), (B1,), DONE_B),
        ((0,), (), (0, 0, 1), (), IN_A),
        ((0,), (), (0, 0, 1), (A0,), IN_A),
    ]),
    "a send that cannot fail": (of(SEND), World(fails=0), [
        ((), (), (0, 0, 0), (), DONE_B),
        ((), (), (0, 0, 0), (B1,), DONE_B),
        ((0,), (), (0, 0, 0), (), IN_A),
        ((0,), (), (0, 0, 0), (A0,), IN_A),
    ]),
    "a lost send": (of(SEND), World(lost=1, fails=0), [
        *rows_at(
            (), (), (0, 0, 0), ((), IN_A), ((), DONE_A), ((A0,), IN_A), ((A0,), DONE_A), ((A0, A1), IN_A),
            ((A0, A1), DONE_A), ((A1,), IN_A), ((A1,), DONE_A),
        ),
        *rows_at((), (), (1, 0, 0), ((), DONE_B), ((B1,), DONE_B)),
        *rows_at((0,), (), (1, 0, 0), ((), IN_A), ((A0,), IN_A)),
    ]),
    "a lost send, whole": (of(SEND), World("whole", lost=1, fails=0), [
        *rows_at((), (), (0, 0, 0), ((), IN_A), ((), DONE_A), ((A0,), IN_A), ((A1,), DONE_A)),
        *rows_at((), (), (1, 0, 0), ((), DONE_B), ((B1,), DONE_B)),
        *rows_at((0,), (), (1, 0, 0), ((), IN_A), ((A0,), IN_A)),
    ]),
    "a lost send, late": (of(SEND), World(lost=1, fails=0, late=True), [
        *rows_at(
            (), (), (0, 0, 0), ((), item("a", sends=1)), ((), DONE_A), ((A0_SEND,), item("a", sends=1)),
            ((A0_SEND,), DONE_A), ((A0_SEND, A1), item("a", sends=1)), ((A0_SEND, A1), DONE_A),
            ((A1,), item("a", sends=1)), ((A1,), DONE_A),
        ),
        *rows_at((), (), (1, 0, 0), ((), DONE_B), ((B1,), DONE_B)),
        *rows_at((0,), (), (1, 0, 0), ((), IN_A), ((A0,), IN_A)),
    ]),
    "a lost send, whole, late": (of(SEND), World("whole", lost=1, fails=0, late=True), [
        # The watched item can be done late, but not the others.
        *rows_at(
            (), (), (0, 0, 0), ((), item("a", sends=1)), ((), DONE_A), ((A0_SEND,), item("a", sends=1)),
            ((A0_SEND,), DONE_A), ((A1,), DONE_A),
        ),
        *rows_at((), (), (1, 0, 0), ((), DONE_B), ((B1,), DONE_B)),
        *rows_at((0,), (), (1, 0, 0), ((), IN_A), ((A0,), IN_A)),
    ]),
    "a send, any number": (of(SEND), World(lost=None, breaks=None), [
        *rows_at(
            (), (), (None, None, None), ((), IN_A), ((), DONE_A), ((), DONE_B), ((), IN_C), ((A0,), IN_A),
            ((A0,), DONE_A), ((A0, A1), IN_A), ((A0, A1), DONE_A), ((A1,), IN_A), ((A1,), DONE_A), ((B1,), DONE_B),
            ((B1,), IN_C), ((B1, C0), DONE_B), ((B1, C0), IN_C), ((C0,), DONE_B), ((C0,), IN_C),
        ),
        *rows_at((0,), (), (None, None, None), ((), IN_A), ((A0,), IN_A)),
    ]),
    "a send in a send": (of(("send", "a", "b", "c", (SEND,))), World("whole", lost=1, fails=0), [
        *rows_at(
            (), (), (0, 0, 0), ((), DONE_B), ((), item("b", 2)), ((B1,), DONE_B), ((B1,), item("b", 2)),
        ),
        *rows_at((), (), (1, 0, 0), ((), DONE_B), ((B1,), DONE_B)),
        *rows_at((0,), (), (1, 0, 0), ((), IN_A), ((A0,), IN_A)),
        *rows_at((0, 0, 0), (), (0, 0, 0), ((), IN_A), ((), DONE_A), ((A0,), IN_A), ((A1,), DONE_A)),
    ]),
    "a keyed": (of(KEYED), World(fails=1), [
        ((), (), (0, 0, 0), (), IN_C),
        ((), (), (0, 0, 0), (B2,), IN_C),
        ((), (), (0, 0, 0), (B2, C0), item("b", 1, True)),
        ((), (), (0, 0, 0), (B2, C0), IN_C),
        ((), (), (0, 0, 0), (C0,), item("b", 1, True)),
        ((), (), (0, 0, 0), (C0,), IN_C),
        ((), (), (0, 0, 1), (), item("b", 1, True)),
        ((), (), (0, 0, 1), (B2,), item("b", 1, True)),
        ((0,), (), (0, 0, 1), (), IN_A),
        ((0,), (), (0, 0, 1), (A0,), IN_A),
    ]),
    "a lost keyed, late": (of(KEYED), World(lost=1, fails=0, late=True), [
        *rows_at(
            (), (), (0, 0, 0), ((), item("a", keyed=True)), ((), item("a", 1, True)),
            ((A0_KEYED,), item("a", keyed=True)), ((A0_KEYED,), item("a", 1, True)),
            ((A0_KEYED, A2), item("a", keyed=True)), ((A0_KEYED, A2), item("a", 1, True)),
            ((A2,), item("a", keyed=True)), ((A2,), item("a", 1, True)),
        ),
        *rows_at((), (), (1, 0, 0), ((), item("b", 1, True)), ((B2,), item("b", 1, True))),
        *rows_at((0,), (), (1, 0, 0), ((), IN_A), ((A0,), IN_A)),
    ]),
    "a lost keyed, whole, late": (of(KEYED), World("whole", lost=1, fails=0, late=True), [
        *rows_at(
            (), (), (0, 0, 0), ((), item("a", keyed=True)), ((), item("a", 1, True)),
            ((A0_KEYED,), item("a", keyed=True)), ((A0_KEYED,), item("a", 1, True)), ((A2,), item("a", 1, True)),
        ),
        *rows_at((), (), (1, 0, 0), ((), item("b", 1, True)), ((B2,), item("b", 1, True))),
        *rows_at((0,), (), (1, 0, 0), ((), IN_A), ((A0,), IN_A)),
    ]),
    "a look": (of(("look", "a", "b", "c", (("tell", "a", "failed"),))), World(lost=1), [
        *rows_at((), (), (0, 0, None), ((), item(None, word="failed")), ((TOLD,), item(None, word="failed"))),
        *rows_at((), (), (1, 0, None), ((), IN_C), ((C0,), IN_C)),
        *rows_at((0,), (), (1, 0, None), ((), IN_A), ((A0,), IN_A)),
        *rows_at((0, 0, 0), (), (0, 0, None), ((), IN_A), ((A0,), IN_A)),
    ]),
    "a look behind a send": (of(("send", "a", "a", "a", ()), LOOK), World(), [
        *rows_at(
            (), (), (0, 0, None), ((), DONE_B), ((), IN_C), ((B1,), DONE_B), ((B1,), IN_C), ((B1, C0), DONE_B),
            ((B1, C0), IN_C), ((C0,), DONE_B), ((C0,), IN_C),
        ),
        *rows_at((0,), (), (0, 0, None), ((), IN_A), ((A0,), IN_A)),
        *rows_at(
            (1,), (), (0, 0, None), ((), IN_A), ((), DONE_A), ((A0,), IN_A), ((A0,), DONE_A), ((A0, A1), IN_A),
            ((A0, A1), DONE_A), ((A1,), IN_A), ((A1,), DONE_A),
        ),
    ]),
    "asks of none": (
        of(("send", "b", "a", "a", (("end",),)), ("keyed", "b", "a", "a", (("end",),)),
           ("look", "b", "a", "a", (("end",),)), ("part", "b", "a")),
        World(lost=1), [
            *rows_at((), (), (1, 0, None), ((), IN_A), ((A0,), IN_A)),
            *rows_at((0,), (), (1, 0, None), ((), IN_A), ((A0,), IN_A)),
            *rows_at((1,), (), (1, 0, None), ((), IN_A), ((A0,), IN_A)),
            *rows_at((2,), (), (1, 0, None), ((), IN_A), ((A0,), IN_A)),
            *rows_at((3,), (), (1, 0, None), ((), IN_A), ((A0,), IN_A)),
        ],
    ),
    "times within times": (
        of(("times", 2, (("times", 3, (("move", "a", "b"),)), ("end",)))), World(fails=0), [
            *rows_at((), (), (0, 0, 0), ((), IN_B), ((B0,), IN_B)),
            *rows_at((0,), (), (0, 0, 0), ((), IN_A), ((A0,), IN_A)),
            *rows_at((0, 0, 0), (2,), (0, 0, 0), ((), IN_A), ((A0,), IN_A)),
            *rows_at((0, 0, 0, 0, 0), (2, 1), (0, 0, 0), ((), IN_B), ((B0,), IN_B)),
            *rows_at((0, 0, 0, 0, 0), (2, 2), (0, 0, 0), ((), IN_B), ((B0,), IN_B)),
            *rows_at((0, 0, 0, 0, 0), (2, 3), (0, 0, 0), ((), IN_A), ((A0,), IN_A)),
            *rows_at((0, 0, 1), (2,), (0, 0, 0), ((), IN_B), ((B0,), IN_B)),
        ],
    ),
    "all rounds of times within times": (
        of(("times", 2, (("times", 2, (("move", "a", "b"),)),))), World(fails=0), [
            *rows_at((), (), (0, 0, 0), ((), IN_B), ((B0,), IN_B)),
            *rows_at((0,), (), (0, 0, 0), ((), IN_A), ((A0,), IN_A)),
            *rows_at((0, 0, 0), (1,), (0, 0, 0), ((), IN_B), ((B0,), IN_B)),
            *rows_at((0, 0, 0), (2,), (0, 0, 0), ((), IN_A), ((A0,), IN_A)),
            *rows_at((0, 0, 0, 0, 0), (1, 1), (0, 0, 0), ((), IN_B), ((B0,), IN_B)),
            *rows_at((0, 0, 0, 0, 0), (1, 2), (0, 0, 0), ((), IN_B), ((B0,), IN_B)),
            *rows_at((0, 0, 0, 0, 0), (2, 1), (0, 0, 0), ((), IN_B), ((B0,), IN_B)),
            *rows_at((0, 0, 0, 0, 0), (2, 2), (0, 0, 0), ((), IN_A), ((A0,), IN_A)),
        ],
    ),
    "times without rounds or statements": (
        of(("times", 0, (("end",),)), ("times", 2, ()), ("tell", "a", "done")), World(fails=0), [
            *rows_at((), (), (0, 0, 0), ((), item(None, word="done")), ((TOLD,), item(None, word="done"))),
            *rows_at((0,), (), (0, 0, 0), ((), IN_A), ((A0,), IN_A)),
            *rows_at((1,), (), (0, 0, 0), ((), IN_A), ((A0,), IN_A)),
            *rows_at((2,), (), (0, 0, 0), ((), IN_A), ((A0,), IN_A)),
        ],
    ),
    "a part": (of(("part", "a", "b")), World(fails=0), [
        *rows_at(
            (), (), (0, 0, 0), ((), IN_A), ((), IN_B), ((A0,), IN_A), ((A0,), IN_B), ((A0, B0), IN_A),
            ((A0, B0), IN_B), ((B0,), IN_A), ((B0,), IN_B),
        ),
        *rows_at((0,), (), (0, 0, 0), ((), IN_A), ((A0,), IN_A)),
    ]),
    "a while with items of others": (of(("while", "a", (("part", "a", "b"),))), World(fails=0), [
        *rows_at((), (), (0, 0, 0), ((), IN_B), ((B0,), IN_B)),
        *rows_at(
            (0,), (), (0, 0, 0), ((), IN_A), ((), IN_B), ((A0,), IN_A), ((A0,), IN_B), ((A0, B0), IN_A),
            ((A0, B0), IN_B), ((B0,), IN_A), ((B0,), IN_B),
        ),
        *rows_at(
            (0, 0, 0), (), (0, 0, 0), ((), IN_A), ((A0,), IN_A), ((A0,), IN_B), ((A0, B0), IN_A), ((A0, B0), IN_B),
            ((B0,), IN_A),
        ),
    ]),
    "a while without items": (of(("while", "b", (("end",),)), ("move", "a", "c")), World(fails=0), [
        *rows_at((), (), (0, 0, 0), ((), IN_C), ((C0,), IN_C)),
        *rows_at((0,), (), (0, 0, 0), ((), IN_A), ((A0,), IN_A)),
        *rows_at((1,), (), (0, 0, 0), ((), IN_A), ((A0,), IN_A)),
    ]),
    "an if with items of others": (
        of(("part", "a", "b"), ("if", "b", (("tell", "a", "failed"),), (("tell", "a", "done"),))), World(fails=0), [
            *rows_at(
                (), (), (0, 0, 0), ((), item(None, word="done")), ((), IN_B), ((TOLD,), item(None, word="done")),
                ((TOLD,), IN_B), ((TOLD, B0), item(None, word="failed")), ((TOLD, B0), IN_B),
                ((B0,), item(None, word="failed")), ((B0,), IN_B),
            ),
            *rows_at((0,), (), (0, 0, 0), ((), IN_A), ((A0,), IN_A)),
            *rows_at(
                (1,), (), (0, 0, 0), ((), IN_A), ((), IN_B), ((A0,), IN_A), ((A0,), IN_B), ((A0, B0), IN_A),
                ((A0, B0), IN_B), ((B0,), IN_A), ((B0,), IN_B),
            ),
            *rows_at(
                (1, 0, 0), (), (0, 0, 0), ((), IN_B), ((A0,), IN_B), ((A0, B0), IN_A), ((A0, B0), IN_B),
                ((B0,), IN_A), ((B0,), IN_B),
            ),
            *rows_at((1, 1, 0), (), (0, 0, 0), ((), IN_A), ((A0,), IN_A)),
        ],
    ),
    "an if without a block": (of(("if", "a", (), (("end",),)), ("if", "b", (("end",),), ())), World(fails=0), [
        *rows_at((), (), (0, 0, 0), ((), IN_A), ((A0,), IN_A)),
        *rows_at((0,), (), (0, 0, 0), ((), IN_A), ((A0,), IN_A)),
        *rows_at((1,), (), (0, 0, 0), ((), IN_A), ((A0,), IN_A)),
    ]),
    "a break": (of(("move", "a", "b"), ("end",)), World(breaks=1, fails=0), [
        *rows_at((), (), (0, 0, 0), ((), IN_B), ((B0,), IN_B)),
        *rows_at((), (), (0, 1, 0), ((), IN_B), ((B0,), IN_B)),
        *rows_at((0,), (), (0, 0, 0), ((), IN_A), ((A0,), IN_A)),
        *rows_at((0,), (), (0, 1, 0), ((), IN_A), ((A0,), IN_A)),
        *rows_at((1,), (), (0, 0, 0), ((), IN_B), ((B0,), IN_B)),
        *rows_at((1,), (), (0, 1, 0), ((), IN_B), ((B0,), IN_B)),
    ]),
    "a break with a kept list": (of(("move", "a", "b"), ("end",), kept=("b",)), World(breaks=1, fails=0), [
        *rows_at((), (), (0, 0, 0), ((), IN_B), ((B0,), IN_B)),
        *rows_at((), (), (0, 1, 0), ((), IN_B), ((B0,), IN_B)),
        *rows_at((0,), (), (0, 0, 0), ((), IN_A), ((), IN_B), ((A0,), IN_A), ((B0,), IN_B)),
        *rows_at((0,), (), (0, 1, 0), ((), IN_A), ((A0,), IN_A)),
        *rows_at((1,), (), (0, 0, 0), ((), IN_B), ((B0,), IN_B)),
        *rows_at((1,), (), (0, 1, 0), ((), IN_B), ((B0,), IN_B)),
    ]),
    "a break behind a part": (of(("part", "a", "b"), ("end",), kept=("a",)), World(breaks=None, fails=0), [
        # Shadows in two lists become one.
        *rows_at(
            (), (), (0, None, 0), ((), IN_A), ((), IN_B), ((A0,), IN_A), ((A0,), IN_B), ((A0, B0), IN_A),
            ((A0, B0), IN_B), ((B0,), IN_A), ((B0,), IN_B),
        ),
        *rows_at((0,), (), (0, None, 0), ((), IN_A), ((A0,), IN_A)),
        *rows_at(
            (1,), (), (0, None, 0), ((), IN_A), ((), IN_B), ((A0,), IN_A), ((A0,), IN_B), ((A0, B0), IN_A),
            ((A0, B0), IN_B), ((B0,), IN_A), ((B0,), IN_B),
        ),
    ]),
    "a break with told items": (of(("tell", "a", "done"), ("end",)), World(breaks=1, fails=0), [
        *rows_at((), (), (0, 0, 0), ((), item(None, word="done")), ((TOLD,), item(None, word="done"))),
        *rows_at((), (), (0, 1, 0), ((), item(None, word="done")), ((TOLD,), item(None, word="done"))),
        *rows_at(
            (0,), (), (0, 0, 0), ((), item(None, word="done")), ((), IN_A), ((TOLD,), item(None, word="done")),
            ((A0,), IN_A),
        ),
        *rows_at((0,), (), (0, 1, 0), ((), IN_A), ((A0,), IN_A)),
        *rows_at((1,), (), (0, 0, 0), ((), item(None, word="done")), ((TOLD,), item(None, word="done"))),
        *rows_at((1,), (), (0, 1, 0), ((), item(None, word="done")), ((TOLD,), item(None, word="done"))),
    ]),
}

# No item is done twice and told of in any of these programs.
IMPOSSIBLE = (2, "failed")


def kinds(value):
    """The kinds of all values in nested tuples."""
    return tuple(kinds(part) for part in value) if type(value) is tuple else type(value)


class ByHand(unittest.TestCase):
    def test_papers_that_were_written_by_hand(self):
        for name, (program, world, rows) in PAPERS.items():
            with self.subTest(name):
                found = paper(program, world, IMPOSSIBLE)
                self.assertIs(type(found), tuple)
                self.assertEqual(list(found), rows)
                # True is equal to 1, but not of its kind.
                self.assertEqual(kinds(found), kinds(tuple(rows)))

    def test_they_hold_in_any_order_and_not_without_a_row(self):
        for name, (program, world, rows) in PAPERS.items():
            with self.subTest(name):
                self.assertIs(holds(program, world, IMPOSSIBLE, tuple(rows)), True)
                self.assertIs(holds(program, world, IMPOSSIBLE, tuple(rows[::-1])), True)
                for at in range(len(rows)):
                    self.assertIs(holds(program, world, IMPOSSIBLE, tuple(rows[:at] + rows[at + 1:])), False)

    def test_the_example_of_the_interface(self):
        rows = paper(Program(("a",), (("tell", "a", "done"),)), World(fails=0), (1, "done"))
        self.assertEqual(
            [rows[0], len(rows), holds(Program(("a",), (("tell", "a", "done"),)), World(fails=0), (1, "done"), rows)],
            [((), (), (0, 0, 0), (), (None, 0, False, 0, False, "done")), 4, True],
        )

    def test_the_order_of_rows(self):
        # The order of the lists of a program is another one than that of their names.
        program = Program(("b", "a"), (("part", "b", "a"), ("tell", "b", "done"), ("tell", "a", "failed")))
        rows = paper(program, World(fails=0), (1, None))
        ends = [row[3:] for row in rows if not row[0]]
        self.assertEqual(ends, [
            ((), (None, 0, False, 0, False, "done")), ((), (None, 0, False, 0, False, "failed")),
            (((None, 0, ()),), (None, 0, False, 0, False, "done")),
            (((None, 0, ()),), (None, 0, False, 0, False, "failed")),
        ])
        middle = [row[3:] for row in rows if row[0] == (2,)]
        told, in_a = (None, 0, False, 0, False, "done"), ("a", 0, False, 0, False, None)
        self.assertEqual(middle, [
            ((), told), ((), in_a), ((TOLD,), told), ((TOLD,), in_a), ((TOLD, A0), told), ((TOLD, A0), in_a),
            ((A0,), told), ((A0,), in_a),
        ])
        self.assertEqual([row[3:] for row in rows if row[0] == (0,)], [((), IN_B), ((B0,), IN_B)])


class Possible(unittest.TestCase):
    def test_each_possible_result_and_each_other_one(self):
        every = [(count, word) for count in (0, 1, 2) for word in (None, "done", "failed")]
        for name, (program, world, rows) in PAPERS.items():
            possible = {(row[4][1], row[4][5]) for row in rows if not row[0]}
            for result in every:
                with self.subTest(name, result=result):
                    if result in possible:
                        with self.assertRaises(IsPossible):
                            paper(program, world, result)
                        self.assertIs(holds(program, world, result, tuple(rows)), False)
                    else:
                        self.assertEqual(list(paper(program, world, result)), rows)
                        self.assertIs(holds(program, world, result, tuple(rows)), True)

    def test_no_run_ends(self):
        program = of(("while", "a", ()))
        for count in (0, 1, 2):
            for word in (None, "done", "failed"):
                self.assertEqual(
                    paper(program, World(fails=0), (count, word)),
                    (((0,), (), (0, 0, 0), (), IN_A), ((0,), (), (0, 0, 0), (A0,), IN_A)),
                )


if __name__ == "__main__":
    unittest.main()
