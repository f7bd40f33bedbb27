"""Tests of answerparts/runs.py: point 9, the limit, the endings and what an outcome tells; point 1 for runs."""

import doctest
import itertools
import unittest

from answerparts.errors import InvalidEvent, InvalidLimit
from answerparts.programs import Program
from answerparts.runs import Outcome, run
from answerparts.worlds import World
from playing import ANY, LATE, RunCase, program_of

# As the document prints it.
EXAMPLE = """
>>> from answerparts.programs import Program
>>> from answerparts.runs import run
>>> from answerparts.worlds import World
>>> block = (("send", "todo", "ok", "todo", (("send", "todo", "ok", "todo", ()),)), ("tell", "ok", "done"))
>>> outcome = run(Program(("todo", "ok"), block), World(lost=1), 2, (("lost", (1,)), ("answer", (0, 1))))
>>> [outcome.ending, outcome.trace, outcome.counts, outcome.told, outcome.result(1)]
['done', ((0,), (0, 0, 0), (1,)), (1, 2), ('done', 'done'), (2, 'done')]
"""

SEND = ("send", "a", "b", "c", ())
MOVE = ("move", "a", "a")
NAMES = ("ending", "trace", "taken", "lists", "counts", "told")


class Limits(RunCase):
    def test_limits_that_are_none(self):
        for limit in (-1, 1001, 10 ** 30, True, False, None, "200", "", 5.0, (5,), [], float("nan"), Outcome):
            for history in ((), (None,), (("break", -1),), (("late", 9, "send"),)):
                with self.subTest(limit=limit, history=history), self.assertRaises(InvalidLimit):
                    run(program_of(MOVE), World(), 1, history, limit=limit)

    def test_a_right_limit_and_a_wrong_history(self):
        for limit in (0, 1, 1000):
            with self.assertRaises(InvalidEvent):
                run(program_of(MOVE), World(), 1, (("break", -1),), limit=limit)

    def test_the_limit_is_given_by_keyword(self):
        with self.assertRaises(TypeError):
            run(program_of(MOVE), World(), 1, (), 5)

    def test_no_step_at_all(self):
        outcome = self.played(program_of(MOVE), 1, limit=0)
        self.assertEqual([outcome.ending, outcome.trace, outcome.taken, outcome.lists], ["long", (), 0, ("a",)])
        self.assertEqual(self.played(program_of(), 1, limit=0).ending, "done")

    def test_one_step(self):
        self.assertEqual(self.played(program_of(MOVE), 1, limit=1).ending, "done")
        outcome = self.played(program_of(MOVE, MOVE), 1, limit=1)
        self.assertEqual([outcome.ending, outcome.trace], ["long", ((0,),)])

    def test_just_so_many_steps_as_the_run_has(self):
        program = program_of(("while", "a", (("part", "a", "b"), ("times", 2, (MOVE,)))))
        history = (("part", ()), ("part", (0,)))
        steps = len(self.done(program, 1, *history))
        self.assertEqual(steps, 11)
        self.assertEqual(self.played(program, 1, *history, limit=steps).ending, "done")
        for limit in range(steps):
            outcome = self.played(program, 1, *history, limit=limit)
            self.assertEqual([outcome.ending, len(outcome)], ["long", limit])

    def test_the_limit_if_none_is_said(self):
        outcome = run(program_of(("while", "a", ())), World(), 1, ())
        self.assertEqual([outcome.ending, len(outcome)], ["long", 200])

    def test_the_greatest_limit(self):
        outcome = run(program_of(("while", "a", (MOVE,))), World(), 1, (), limit=1000)
        self.assertEqual([outcome.ending, len(outcome)], ["long", 1000])

    def test_steps_ahead_of_a_break_count(self):
        outcome = self.played(program_of(MOVE, MOVE), 1, ("break", 1), limit=2)
        self.assertEqual([outcome.ending, outcome.trace], ["long", ((0,), (0,))])
        self.assertEqual(self.played(program_of(MOVE, MOVE), 1, ("break", 1), limit=3).ending, "done")


class Endings(RunCase):
    def test_waiting(self):
        for statement in (SEND, ("keyed", "a", "b", "c", ()), ("look", "a", "b", "c", ()), ("part", "a", "b")):
            outcome = self.played(program_of(MOVE, statement), 1)
            self.assertEqual([outcome.ending, outcome.trace, outcome.taken], ["waiting", ((0,),), 0])
            outcome = self.played(program_of(SEND, ("move", "b", "a"), statement), 1, ("answer", (0,)))
            self.assertEqual([outcome.ending, len(outcome), outcome.taken], ["waiting", 2, 1])

    def test_long_and_waiting_at_once(self):
        outcome = self.played(program_of(MOVE, SEND), 1, limit=1)
        self.assertEqual([outcome.ending, len(outcome), outcome.taken], ["long", 1, 0])
        self.assertEqual(self.played(program_of(SEND), 1, limit=0).ending, "long")
        outcome = self.played(program_of(MOVE, SEND), 1, limit=2)
        self.assertEqual([outcome.ending, len(outcome)], ["waiting", 1])

    def test_events_taken_behind_each_ending(self):
        program = program_of(SEND, SEND, MOVE)
        lost, late = ("lost", ()), ("late", 0, "send")
        for history, limit, ending, taken in (
            ((lost, late), 200, "waiting", 2),
            ((lost, late, lost, late), 200, "done", 4),
            ((lost, lost, late, late, lost, late), 200, "done", 4),
            ((lost, lost, ("break", 3), late), 200, "done", 2),
            ((lost, lost, late, ("answer", ()), late), 200, "done", 3),
            ((lost, late, lost), 1, "long", 2),
            ((lost, ("break", 1), late, lost), 1, "long", 3),
            ((lost, lost), 0, "long", 0),
        ):
            with self.subTest(history=history, limit=limit):
                outcome = self.played(program, 1, *history, world=LATE, limit=limit)
                self.assertEqual([outcome.ending, outcome.taken], [ending, taken])


class Outcomes(RunCase):
    def test_the_example_of_the_interface(self):
        test = doctest.DocTestParser().get_doctest(EXAMPLE, {}, "example", None, None)
        self.assertEqual(len(test.examples), 6)
        self.assertEqual(doctest.DocTestRunner().run(test).failed, 0)

    def test_names_stand_in_their_file(self):
        self.assertEqual([run.__module__, Outcome.__module__], ["answerparts.runs"] * 2)
        for name in NAMES + ("result", "__len__", "__eq__"):
            self.assertIn(name, vars(Outcome))

    def test_the_properties(self):
        program = program_of(("part", "a", "b"), SEND, ("tell", "b", "done"))
        outcome = self.done(program, 4, ("part", (0,)), ("answer", (1, 3)))
        told = ("done", "done", None, "done")
        expected = ("done", ((0,), (1,), (2,)), 2, (None, None, "c", None), (0, 1, 0, 1), told)
        for name, value in zip(NAMES, expected):
            with self.subTest(name=name):
                self.assertEqual(getattr(outcome, name), value)
                self.assertIs(type(getattr(outcome, name)), type(value))
                with self.assertRaises(AttributeError):
                    setattr(outcome, name, value)
        self.assertEqual(len(outcome), 3)

    def test_results(self):
        program = program_of(*(("send", "a", "a", "a", ()),) * 4, ("part", "a", "b"), ("tell", "a", "failed"))
        history = (("answer", (1, 2, 3)), ("answer", (2, 3)), ("answer", (3,)), ("answer", (3,)), ("part", (0,)))
        outcome = self.done(program, 4, *history)
        self.assertEqual(outcome.counts, (0, 1, 2, 4))
        results = [outcome.result(item) for item in range(4)]
        self.assertEqual(results, [(0, None), (1, "failed"), (2, "failed"), (2, "failed")])

    def test_results_of_runs_that_have_not_ended(self):
        outcome = self.played(program_of(SEND, MOVE, ("tell", "b", "done")), 1, ("answer", (0,)), limit=2)
        self.assertEqual([outcome.ending, outcome.result(0)], ["long", (1, None)])
        self.assertEqual(self.played(program_of(SEND), 1).result(0), (0, None))

    def test_equal_outcomes(self):
        program = program_of(SEND, MOVE)
        one = run(program, ANY, 2, (("answer", (1,)),))
        for other in (
            run(program, World(), 2, (("answer", (1,)),)),
            run(program, ANY, 2, (("answer", (1,)), None), limit=2),
            run(Program(("a", "b", "c", "d"), program.block, ("d",)), ANY, 2, (("answer", (1,)),)),
        ):
            self.assertIs(one == other, True)
            self.assertIs(one != other, False)

    def test_outcomes_that_differ(self):
        # Among them are two that differ in each of the properties alone.
        lost, late = ("lost", ()), ("late", 0, "send")
        outcomes = [
            run(program_of(MOVE), ANY, 1, ()),
            run(program_of(MOVE, MOVE), ANY, 1, (), limit=1),
            run(program_of(MOVE, SEND), ANY, 1, ()),
            run(program_of(("if", "a", (MOVE,), ())), ANY, 1, (), limit=1),
            run(program_of(("if", "a", (MOVE,), ())), ANY, 1, ()),
            run(program_of(MOVE), ANY, 1, (("break", 0),)),
            run(program_of(MOVE), ANY, 2, ()),
            run(program_of(("move", "a", "b")), ANY, 1, ()),
            run(program_of(("tell", "a", "done")), ANY, 1, ()),
            run(program_of(("tell", "a", "failed")), ANY, 1, ()),
            run(program_of(SEND), LATE, 1, (lost,)),
            run(program_of(SEND), LATE, 1, (lost, late)),
            run(program_of(SEND), LATE, 1, (("lost", (0,)),)),
        ]
        for at, other in itertools.combinations(range(len(outcomes)), 2):
            same = all(getattr(outcomes[at], name) == getattr(outcomes[other], name) for name in NAMES)
            self.assertIs(outcomes[at] == outcomes[other], same)
            self.assertIs(outcomes[at] != outcomes[other], not same)

    def test_values_of_other_kinds(self):
        outcome = run(program_of(MOVE), ANY, 1, ())
        values = tuple(getattr(outcome, name) for name in NAMES)
        others = (None, 0, 1, "done", values, list(values), outcome.trace, Outcome, World(), program_of(MOVE), object())
        for other in others:
            self.assertIs(outcome == other, False)
            self.assertIs(other == outcome, False)
            self.assertIs(outcome != other, True)

    def test_calls_between_change_nothing(self):
        program, world, history = program_of(SEND, SEND), LATE, (("lost", (1,)), ("late", 0, "send"), ("answer", ()))
        before = run(program, world, 2, history)
        kept = tuple(getattr(before, name) for name in NAMES)
        run(program, world, 3, (("lost", ()),))
        run(program_of(MOVE), world, 2, ())
        self.assertEqual(run(program, world, 2, history), before)
        self.assertEqual(tuple(getattr(before, name) for name in NAMES), kept)
        self.assertEqual([program, world], [program_of(SEND, SEND), LATE])

    def test_many_items(self):
        evens = tuple(range(0, 3000, 2))
        outcome = self.done(program_of(SEND), 3000, ("answer", evens))
        self.assertEqual(outcome.counts, (1, 0) * 1500)


if __name__ == "__main__":
    unittest.main()
