"""Tests of answerparts/papers.py: point 17, what holds says of any value."""

import collections
import enum
import unittest
from unittest import mock

import following
from draws import Draws, drawn_program, drawn_world
from answerparts.papers import holds, paper
from answerparts.programs import Program
from answerparts.reaching import results
from answerparts.worlds import World

EVERY_RESULT = [(count, word) for count in (0, 1, 2) for word in (None, "done", "failed")]

BLOCK = (
    ("times", 2, (("keyed", "a", "b", "b", ()), ("times", 3, (("move", "c", "a"),)))),
    ("send", "b", "a", "a", ()),
    ("tell", "a", "done"),
    ("times", 0, (("end",),)),
)
PROGRAM = Program(("a", "c", "b"), BLOCK)
WORLD = World("whole", lost=1, late=True)
RESULT = (2, "failed")
PAPER = paper(PROGRAM, WORLD, RESULT)

LEFT = (1, 0, None)
NOTHING = ("a", 0, False, 0, False, None)
END = ((), (), LEFT, (("a", 0, ()),), NOTHING)


def at_end(**parts):
    """A row from which nothing follows, with other parts."""
    row = {"path": (), "rounds": (), "left": LEFT, "others": (("a", 0, ()),), "watched": NOTHING, **parts}
    return tuple(row[name] for name in ("path", "rounds", "left", "others", "watched"))


def with_all_behind(program, world, row):
    """A row and all rows that follow from it."""
    todo, found = [row], [row]
    while todo:
        new = [after for after in following.follow(program, world, todo.pop()) if after not in found]
        found += new
        todo += new
    return found


class Strange:
    """Can't be asked for anything."""

    __hash__ = None

    def __eq__(self, other):
        raise RuntimeError("compared")

    def __len__(self):
        raise RuntimeError("measured")

    def __iter__(self):
        raise RuntimeError("iterated over")

    def __bool__(self):
        raise RuntimeError("asked for its truth")


class One(enum.IntEnum):
    ONE = 1


class Text(str):
    __hash__ = None

    def __eq__(self, other):
        raise RuntimeError("compared")


Pair = collections.namedtuple("Pair", "one other")

ODD = (
    None, True, False, 0, 1, -1, 10 ** 50, 1.0, float("nan"), 1j, "", "a", b"a", [], ["a"], {}, {"a"}, frozenset(),
    range(2), object(), int, len, Ellipsis, NotImplemented, Strange(), Text("a"), One.ONE, mock.ANY, mock.Mock(),
    mock.MagicMock(),
    (None,), ("a", "b"), ((),), ([],), (Strange(),), (Text("a"),), (mock.ANY,), (mock.ANY,) * 3, (mock.ANY,) * 5,
    (mock.ANY,) * 6, (0, 0), (0, 0, 0), ((0, 0),), (("a",),), iter(()), Pair(Strange(), Strange()),
)


def odd_but(*fitting):
    """The odd values without those that are of the same kind as a fitting one, and equal to it."""
    return [
        value for value in ODD if not any(type(value) is type(other) and value == other for other in fitting)
    ]


class AnyRows(unittest.TestCase):
    def says(self, expected, rows, program=PROGRAM, world=WORLD, result=RESULT):
        self.assertIs(holds(program, world, result, rows), expected)

    def refused(self, *rows):
        """The paper with these rows does not hold, whatever follows from them."""
        self.says(False, PAPER + rows)
        self.says(False, rows + PAPER)

    def test_the_paper_in_any_order(self):
        self.says(True, PAPER)
        self.says(True, PAPER[::-1])
        self.says(True, PAPER[7:] + PAPER[:7])
        self.says(True, tuple(list(PAPER)))

    def test_the_paper_without_one_of_its_rows(self):
        for at in range(0, len(PAPER), 7):
            self.says(False, PAPER[:at] + PAPER[at + 1:])
        self.says(False, ())
        self.says(False, PAPER[:1])

    def test_a_row_twice(self):
        for at in (0, 5, len(PAPER) - 1):
            self.says(False, PAPER + PAPER[at: at + 1])
            self.says(False, PAPER[at: at + 1] + PAPER)
        self.says(False, PAPER * 2)

    def test_rows_that_follow_from_none(self):
        self.assertNotIn(END, PAPER)
        self.says(True, PAPER + (END,))
        self.says(True, (END,) + PAPER)
        for row in (
            at_end(left=(0, 0, None)), at_end(others=()), at_end(others=(("b", 0, ()), ("c", 0, ()))),
            at_end(others=((None, 0, ()), (None, 1, ("keyed",)), ("a", 0, ("keyed", "send")), ("a", 0, ("send",)))),
            at_end(watched=("a", 2, False, 0, False, None)), at_end(watched=("c", 1, True, 0, False, None)),
            at_end(watched=(None, 0, False, 0, False, "failed")), at_end(watched=(None, 1, True, 0, False, "failed")),
        ):
            self.assertNotIn(row, PAPER)
            self.says(True, PAPER + (row,))
        # From these others follow.
        for row in (
            at_end(watched=("a", 0, False, 2, False, None)), at_end(watched=("a", 1, False, 0, True, None)),
            at_end(watched=("a", 2, True, 2, False, None)),
            ((0, 0, 1, 0, 0), (2, 3), (0, 0, None), (), ("c", 0, False, 0, False, None)),
            ((0, 0, 0), (1,), (0, 0, None), (("b", 1, ()),), NOTHING),
        ):
            self.assertNotIn(row, PAPER)
            self.says(False, PAPER + (row,))
            rows = PAPER + tuple(after for after in with_all_behind(PROGRAM, WORLD, row) if after not in PAPER)
            self.says(True, rows)

    def test_rows_of_a_possible_result(self):
        possible = results(PROGRAM, WORLD)
        self.assertEqual(len(possible), 6)
        for result in EVERY_RESULT:
            self.says(result not in possible, PAPER, result=result)
        # No run ends with this row, but it has the result.
        self.says(True, PAPER + (at_end(watched=(None, 2, False, 0, False, "failed")),), result=(0, "failed"))
        self.says(False, PAPER + (at_end(watched=(None, 2, False, 0, False, "failed")),))
        self.says(False, PAPER + tuple(with_all_behind(
            PROGRAM, WORLD, at_end(watched=(None, 1, False, 1, False, "failed"))
        )))

    def test_values_that_are_no_tuple_of_rows(self):
        for value in ODD:
            self.says(False, value)
            self.says(False, (value,))
            self.refused(value)
        self.says(False, list(PAPER))
        self.says(False, set(PAPER))
        self.says(False, dict.fromkeys(PAPER))
        self.says(False, iter(PAPER))
        self.says(False, (PAPER,))
        self.says(False, ("path", "rounds", "left", "others", "watched"))
        self.says(False, tuple(list(row) for row in PAPER))

    def test_rows_of_other_lengths(self):
        for row in (END[:4], END[1:], END + ((),), END + (None,), (END,), END[:1], ()):
            self.refused(row)

    def test_any_value_in_each_place(self):
        for at, fitting in enumerate(((), (), (), ((),), ())):
            for value in odd_but(*fitting):
                self.refused(END[:at] + (value,) + END[at + 1:])
        for at, fitting in enumerate(((0, 1), (0,), (None,))):
            for value in odd_but(*fitting):
                self.refused(at_end(left=LEFT[:at] + (value,) + LEFT[at + 1:]))
        for at, fitting in enumerate(((None, "a"), (0, 1), ((),))):
            for value in odd_but(*fitting):
                shadow = ("a", 0, ())
                self.refused(at_end(others=(shadow[:at] + (value,) + shadow[at + 1:],)))
        for at, fitting in enumerate((("a",), (0, 1), (False,), (0, 1), (False, True), (None,))):
            for value in odd_but(*fitting):
                self.refused(at_end(watched=NOTHING[:at] + (value,) + NOTHING[at + 1:]))
        for value in odd_but():
            self.refused(at_end(others=(value,)))
            self.refused(at_end(others=(("a", 0, (value,)),)))
            self.refused(at_end(watched=(None, 0, False, 0, False, value)))
            self.refused(at_end(rounds=(value,)), at_end())
        for value in odd_but(0, 1):
            self.refused(at_end(path=(value,)), at_end())
            self.refused(at_end(path=(0, value, 0), rounds=(1,)), at_end())
            self.refused(at_end(path=(0, 0, 0), rounds=(value,)), at_end())

    def test_true_is_not_1(self):
        """What is equal to a row of the paper, but has values of another kind, is none."""
        one = next(row for row in PAPER if row[1] and row[4][1] == 1 and row[4][2] is True and row[4][3] == 0)
        self.assertEqual(one[2][0], 0)
        rest = tuple(row for row in PAPER if row != one)
        self.says(True, rest + (one,))
        path, rounds, left, others, watched = one
        self.says(False, rest + ((tuple(bool(part) if part < 2 else part for part in path), *one[1:]),))
        self.says(False, rest + ((path, tuple(float(part) for part in rounds), *one[2:]),))
        self.says(False, rest + ((path, rounds, (False, *left[1:]), others, watched),))
        for at, value in ((1, True), (1, 1.0), (2, 1), (3, False), (3, 0.0), (4, 0)):
            changed = watched[:at] + (value,) + watched[at + 1:]
            self.assertEqual(changed, watched)
            self.says(False, rest + ((path, rounds, left, others, changed),))
        one = next(row for row in PAPER if row[3] and row[3][0][1] == 1)
        rest = tuple(row for row in PAPER if row != one)
        self.says(True, rest + (one,))
        shadow = one[3][0]
        for state in (True, 1.0):
            changed = ((shadow[0], state, shadow[2]), *one[3][1:])
            self.assertEqual(changed, one[3])
            self.says(False, rest + (one[:3] + (changed,) + one[4:],))
        one = next(row for row in PAPER if row[1] == (1,))
        rest = tuple(row for row in PAPER if row != one)
        self.says(False, rest + ((one[0], (True,), *one[2:]),))

    def test_paths(self):
        for path in (
            [], [0], (True,), (False,), (0, False, 0), (0.0,), ("0",), (None,), (4,), (-1,), (0, 0), (0, 0, 2),
            (0, 1, 0), (1, 0, 0), (2, 0, 0), (0, 0, 0, 0), (0, 0, 0, 0, 0), (0, 0, 1, 0, 1), (0, 0, 1, 1, 0),
            (0, 0, -1), (0, 0, 1, 0, 0, 0, 0), ((0,),), (0, None, 0),
        ):
            self.refused(at_end(path=path))
            self.refused(at_end(path=path, rounds=(1,)))
            self.refused(at_end(path=path, rounds=(1, 1)))

    def test_rounds(self):
        self.says(True, PAPER + tuple(
            row for row in with_all_behind(PROGRAM, WORLD, at_end(path=(0, 0, 1, 0, 0), rounds=(2, 3)))
            if row not in PAPER
        ))
        for rounds in ((1,), (0,), [], None, (1, 1)):
            self.refused(at_end(rounds=rounds))
            self.refused(at_end(path=(3,), rounds=rounds), at_end())
        for path, of_path in (
            ((0, 0, 0), ((), (0,), (3,), (-1,), (1, 1), [1], (True,), (1.0,), ("1",), (None,), 1, None)),
            ((0, 0, 1, 0, 0), (
                (), (1,), (0, 1), (1, 0), (3, 1), (1, 4), (1, 1, 1), (True, 1), (1, True), (1, None), [1, 1], (4, 2),
            )),
            # No round of this one is ever executed.
            ((3, 0, 0), ((), (0,), (1,), (-1,), (3,))),
        ):
            for rounds in of_path:
                row = at_end(path=path, rounds=rounds, left=(0, 0, None))
                self.refused(row)
                # Even with what would follow from it.
                if type(rounds) is tuple and [type(part) for part in rounds] == [int] * (len(path) // 2):
                    behind = with_all_behind(PROGRAM, WORLD, row)[1:]
                    self.refused(row, *(after for after in behind if after not in PAPER))

    def test_what_is_left(self):
        for left in (
            (2, 0, None), (1, 1, None), (-1, 0, None), (1, -1, None), (1, 0, 0), (1, 0, 3), (None, 0, None),
            (1, None, None), (True, 0, None), (1, False, None), (1, 0), (1, 0, None, None), [1, 0, None], (), None,
            (1, 0, 4), (4, 0, 4), (1.0, 0, None),
        ):
            self.refused(at_end(left=left))
        for world, fitting, others in (
            (
                World("whole", lost=None, breaks=3, fails=0), (None, 3, 0),
                ((0, 3, 0), (None, None, 0), (None, 3, None), (None, 3, 1), (None, 4, 0), (4, 3, 0)),
            ),
            (
                World("whole", lost=3, breaks=None, fails=2), (3, None, 2),
                ((4, None, 2), (3, 4, 2), (3, 0, 2), (3, None, 3), (None, None, 2), (3, None, None)),
            ),
        ):
            rows = paper(PROGRAM, world, (0, "failed"))
            self.says(True, rows + (at_end(left=fitting),), world=world, result=(0, "failed"))
            for left in others:
                self.says(False, rows + (at_end(left=left),), world=world, result=(0, "failed"))

    def test_shadows(self):
        a, b, told = ("a", 0, ()), ("b", 0, ()), (None, 0, ())
        for others in (
            # Not ascending, or twice.
            (b, a), (a, a), (a, told), (a, b, b), (("a", 1, ()), a), (("a", 0, ("send",)), ("a", 0, ("keyed",))),
            (("a", 0, ("send",)), ("a", 0, ())), (told, told), (("a", 2, ()), ("a", 1, ("keyed",))), (b, told, a),
            # Of another list, in another state, or pending of what is none.
            (("d", 0, ()),), (("", 0, ()),), (("A", 0, ()),), (("a", 3, ()),), (("a", -1, ()),), (("a", None, ()),),
            (("a", 1, ("send",)),), (("a", 1, ("keyed", "send")),), (("a", 2, ("keyed",)),), (("a", 2, ("send",)),),
            (("a", 2, ("keyed", "send")),), (("a", 0, ("send", "keyed")),), (("a", 0, ("keyed", "keyed")),),
            (("a", 0, ("send", "send")),), (("a", 0, ("look",)),), (("a", 0, ("keyed", "send", "send")),),
            (("a", 0, "send"),), (("a", 0, ["send"]),), (("a", 0, (None,)),), (("a", 0, (("send",),)),),
            (("a", 0),), (("a", 0, (), ()),), (["a", 0, ()],), [a], ("a", 0, ()), (a, None), (None, a), None,
        ):
            self.refused(at_end(others=others))

    def test_watched_items(self):
        for watched in (
            ("d", 0, False, 0, False, None), ("", 0, False, 0, False, None), (None, 0, False, 0, False, None),
            (None, 0, False, 0, False, "told"), (None, 0, False, 0, False, ""), (None, 0, False, 0, False, True),
            ("a", 0, False, 0, False, "done"), ("a", 0, False, 0, False, "failed"), ("a", 0, False, 0, False, "a"),
            ("a", 3, False, 0, False, None), ("a", -1, False, 0, False, None), ("a", None, False, 0, False, None),
            ("a", 0, False, 3, False, None), ("a", 0, False, -1, False, None),
            ("a", 0, True, 0, False, None), ("b", 0, True, 1, False, None), (None, 0, True, 0, False, "failed"),
            ("a", 1, True, 0, True, None), ("a", 2, True, 1, True, None), (None, 1, True, 0, True, "failed"),
            ("a", 0, 0, 0, False, None), ("a", 0, False, 0, 0, None), ("a", 0, None, 0, False, None),
            ("a", 1, 1, 0, False, None), ["a", 0, False, 0, False, None], ("a", 0, False, 0, False),
            ("a", 0, False, 0, False, None, None), (), None,
        ):
            self.refused(at_end(watched=watched))
        # Even with what would follow from it.
        for watched in (
            ("d", 0, False, 1, False, None), (None, 0, False, 0, True, None), ("a", 0, False, 1, False, "done"),
            ("a", 0, False, 3, False, None), ("a", 0, True, 1, False, None), ("a", 1, True, 0, True, None),
        ):
            rows = with_all_behind(PROGRAM, WORLD, at_end(watched=watched))
            self.assertGreater(len(rows), 1)
            self.refused(*(row for row in rows if row not in PAPER))


class Drawn(unittest.TestCase):
    def test_papers_and_parts_of_them(self):
        held = 0
        for seed in range(800000, 800200):
            draws = Draws(seed)
            program, world = drawn_program(draws), drawn_world(draws)
            impossible = [result for result in EVERY_RESULT if result not in results(program, world)]
            try:
                rows = following.all_rows(program, world, 120)
            except following.TooMany:
                continue
            for result in EVERY_RESULT:
                self.assertIs(holds(program, world, result, rows), result in impossible, (seed, result))
            if not impossible:
                continue
            held += 1
            cut = draws.below(len(rows))
            self.assertIs(holds(program, world, impossible[0], rows[cut:] + rows[:cut]), True, seed)
            for at in range(len(rows)):
                part = rows[:at] + rows[at + 1:]
                self.assertIs(holds(program, world, impossible[0], part), False, (seed, at))
        self.assertGreater(held, 120)


if __name__ == "__main__":
    unittest.main()
