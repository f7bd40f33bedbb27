"""Point 1, for all files: calls asked again, with others between them; what callers pass, and what they get."""

import copy
import unittest

from answerparts.desks import Desk, tried
from answerparts.errors import AnswerError, InvalidLists, InvalidText, IsPossible, NoStatement
from answerparts.mends import fewest, mended
from answerparts.notation import format_history, format_program, parse_history, parse_program
from answerparts.papers import holds, paper
from answerparts.programs import Program
from answerparts.reaching import alike, goes_on, is_right, least, results, way
from answerparts.runs import run
from answerparts.worlds import World

BLOCK = (("while", "todo", (("send", "todo", "ok", "todo", ()),)), ("tell", "ok", "done"))
OTHER = (
    ("send", "todo", "ok", "bad", (("look", "todo", "ok", "bad", ()),)), ("tell", "ok", "done"),
    ("tell", "bad", "failed"),
)
PROGRAMS = [Program(("todo", "ok", "bad"), BLOCK), Program(("todo", "ok", "bad"), OTHER, ("bad",))]
WORLDS = [World(lost=1), World("whole", lost=1, breaks=1, late=True), World(fails=0)]
RESULTS = [(0, "failed"), (1, "done"), (2, "done"), (2, None)]
TEXT = format_program(PROGRAMS[1])
HISTORY = (("lost", (0,)), ("late", 1, "send"), ("break", 2), ("answer", (0, 1)))


def paper_or_error(program, world, result):
    try:
        return paper(program, world, result)
    except IsPossible as error:
        return type(error)


def desk_answers(program, world):
    desk = Desk(program, world)
    first = desk.results()
    second = tried(desk, [((1,), ("tell", "ok", "failed"))])
    return [first, second, desk.undo(), desk.redo(), desk.redo(), desk.fresh, desk.program, desk.world]


def all_calls():
    """Calls of all files, each one ready to be made."""
    calls = [
        lambda: run(PROGRAMS[0], World(lost=1, breaks=1, late=True), 2, HISTORY),
        lambda: parse_program(TEXT), lambda: parse_history("answer 0 2; lost; late 1 send"),
        lambda: format_history(HISTORY), lambda: alike(*PROGRAMS, WORLDS[0]),
        lambda: mended(PROGRAMS[0], [(0, 0, 0)], ["ok"]), lambda: WORLDS[0] | WORLDS[2],
        lambda: [list(program.paths()) for program in PROGRAMS],
    ]
    for program in PROGRAMS:
        calls.append(lambda program=program: format_program(program))
        for world in WORLDS:
            both = {"program": program, "world": world}
            calls.append(lambda both=both: results(**both))
            calls.append(lambda both=both: is_right(**both))
            calls.append(lambda both=both: goes_on(**both, items=2))
            calls.append(lambda both=both: fewest(**both, wanted=[(1, "done"), (0, "failed"), (0, None)]))
            calls.append(lambda both=both: desk_answers(**both))
            for result in RESULTS:
                calls.append(lambda both=both, result=result: least(**both, result=result))
                calls.append(lambda both=both, result=result: way(**both, result=result))
                calls.append(lambda both=both, result=result: paper_or_error(**both, result=result))
                rows = paper(PROGRAMS[1], WORLDS[2], (2, "done"))
                calls.append(lambda both=both, result=result, rows=rows: holds(**both, result=result, rows=rows))
    return calls


def spoil(value):
    """Change all lists within what was returned."""
    if isinstance(value, list):
        for part in value:
            spoil(part)
        value.append("spoiled")
        value.reverse()
    elif isinstance(value, tuple):
        for part in value:
            spoil(part)


class Again(unittest.TestCase):
    def test_the_same_calls_again_with_others_between(self):
        calls = all_calls()
        first = [call() for call in calls]
        expected = [copy.deepcopy(answer) for answer in first]
        for answer in first:
            spoil(answer)
        self.assertEqual([call() for call in calls[::-1]], expected[::-1])
        for at in range(0, len(calls), 3):
            self.assertEqual([calls[at](), calls[at]()], [expected[at]] * 2)

    def test_programs_and_worlds_are_as_they_were(self):
        for call in all_calls():
            call()
        self.assertEqual(PROGRAMS[0], Program(("todo", "ok", "bad"), BLOCK))
        self.assertEqual(PROGRAMS[1], Program(("todo", "ok", "bad"), OTHER, ("bad",)))
        self.assertEqual(WORLDS, [World(lost=1), World("whole", lost=1, breaks=1, late=True), World(fails=0)])


class Passed(unittest.TestCase):
    def test_lists_that_are_passed_stay_as_they_are(self):
        paths, lists, wanted = [(0, 0, 0)], ["ok"], [(1, "done")]
        edits = [((1,), ("tell", "ok", "failed"))]
        desk = Desk(PROGRAMS[0], WORLDS[0])
        changed = mended(PROGRAMS[0], paths, lists)
        found = fewest(PROGRAMS[0], WORLDS[0], wanted)
        told = tried(desk, edits)
        self.assertEqual(
            [paths, lists, wanted, edits],
            [[(0, 0, 0)], ["ok"], [(1, "done")], [((1,), ("tell", "ok", "failed"))]],
        )
        # They are not kept, either.
        for passed in (paths, lists, wanted, edits):
            passed.clear()
        self.assertEqual(changed, Program(("todo", "ok", "bad"), changed.block, ("ok",)))
        self.assertEqual(fewest(PROGRAMS[0], WORLDS[0], [(1, "done")]), found)
        self.assertEqual([desk.results(), desk[(1,)]], [told, ("tell", "ok", "failed")])
        self.assertEqual([desk.undo(), desk.undo(), desk.program], [True, False, PROGRAMS[0]])

    def test_calls_that_raise_errors_change_nothing(self):
        desk = Desk(PROGRAMS[0], WORLDS[0])
        edits = [((1,), ("end",)), ((7,), ("end",))]
        for call, kind in (
            (lambda: tried(desk, edits), NoStatement), (lambda: desk.keep("none"), InvalidLists),
            (lambda: paper(PROGRAMS[0], WORLDS[0], (1, "done")), IsPossible), (lambda: parse_program("x"), InvalidText),
            (lambda: parse_history("x"), InvalidText), (lambda: mended(PROGRAMS[0], [(1,)], []), NoStatement),
        ):
            for _ in range(2):
                with self.assertRaises(kind) as caught:
                    call()
                self.assertIsInstance(caught.exception, AnswerError)
        self.assertEqual([desk.program, desk.world, desk.undo(), desk.fresh], [PROGRAMS[0], WORLDS[0], False, 0])
        self.assertEqual(edits, [((1,), ("end",)), ((7,), ("end",))])

    def test_objects_are_equal_to_nothing_of_another_kind(self):
        objects = [PROGRAMS[0], WORLDS[0], run(PROGRAMS[0], WORLDS[0], 1, ()), Desk(PROGRAMS[0], WORLDS[0])]
        others = [None, 0, "", (), [], {}, object(), BLOCK]
        for at, one in enumerate(objects):
            for other in objects[:at] + objects[at + 1:] + others:
                self.assertFalse(one == other)
                self.assertTrue(one != other)


if __name__ == "__main__":
    unittest.main()
