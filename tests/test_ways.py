"""Tests of answerparts/reaching.py: points 11 and 12, the shortest ways and runs without end."""

import doctest
import unittest

import explorer
import second
from answerparts.reaching import goes_on, least, results, way
from answerparts.runs import run
from answerparts.worlds import World
from catalogue import (
    ENDLESS, LEAST, OF_THE_INTERFACE, ONE_EACH_ROUND, RESULTS, RETRY, SHORTER_WITH_TWO, SIMPLE, of,
)
from draws import Draws, drawn_program, drawn_world

EVERY_RESULT = [(count, word) for count in (0, 1, 2) for word in (None, "done", "failed")]

# As the document prints it.
EXAMPLE = """
>>> from answerparts.programs import Program
>>> from answerparts.reaching import least, results, way
>>> from answerparts.worlds import World
>>> block = (("send", "todo", "ok", "bad", ()), ("if", "ok", (("tell", "todo", "failed"), ("tell", "bad", "failed")), ()), ("tell", "ok", "done"))
>>> program = Program(("todo", "ok", "bad"), block)
>>> [results(program, World()), least(program, World(), (0, "failed")), way(program, World(), (0, "failed"))]
[[(0, None), (0, 'failed'), (1, 'done')], (5, 2), (('answer', (1,)),)]
"""


class WayCase(unittest.TestCase):
    def followed(self, program, world, result):
        """The least numbers, when the way to a result was found to have them."""
        found, history = least(program, world, result), way(program, world, result)
        about = (program.lists, program.block, program.kept, vars(world), result, found, history)
        if found is None:
            self.assertIsNone(history, about)
            return None
        self.assertEqual([type(found), type(found[0]), type(found[1]), type(history)], [tuple, int, int, tuple], about)
        steps, items = found
        outcome = run(program, world, items, history, limit=1000)
        self.assertEqual((outcome.ending, len(outcome), outcome.result(0)), ("done", steps, result), about)
        told = second.play(program, world, items, history, 1000)
        self.assertEqual((told[0], len(told[1]), (min(told[4][0], 2), told[5][0])), ("done", steps, result), about)
        return found


class ByHand(WayCase):
    def test_the_example_of_the_interface(self):
        test = doctest.DocTestParser().get_doctest(EXAMPLE, {}, "example", None, None)
        self.assertEqual(len(test.examples), 6)
        self.assertEqual(doctest.DocTestRunner().run(test).failed, 0)

    def test_least_numbers_that_were_worked_out_by_hand(self):
        for program, world, result, expected in LEAST:
            with self.subTest(block=program.block, kept=program.kept, world=vars(world), result=result):
                self.assertEqual(self.followed(program, world, result), expected)

    def test_each_possible_result_has_a_way_and_no_other_one(self):
        for program, world, expected in RESULTS:
            for result in EVERY_RESULT:
                with self.subTest(block=program.block, kept=program.kept, world=vars(world), result=result):
                    self.assertEqual(self.followed(program, world, result) is not None, result in expected)

    def test_results_that_are_not_possible(self):
        for result in ((1, "failed"), (2, "done"), (2, None), (0, "done"), (3, "done"), (-1, None), (1, "other")):
            self.assertIsNone(least(SIMPLE, World(), result))
            self.assertIsNone(way(SIMPLE, World(), result))
        self.assertIsNone(least(of(("while", "a", ())), World(), (0, None)))

    def test_no_step_at_all(self):
        self.assertEqual([least(of(), World(), (0, None)), way(of(), World(), (0, None))], [(0, 1), ()])

    def test_late_doings_after_the_end_take_no_steps(self):
        for word in ("send", "keyed"):
            program = of((word, "a", "a", "a", ()), ("tell", "a", "failed"))
            for mode in ("each", "whole"):
                world = World(mode, lost=1, fails=0, late=True)
                self.assertEqual(self.followed(program, world, (1, "failed")), (2, 1))
                self.assertEqual(self.followed(program, world, (0, "failed")), (2, 1))

    def test_more_items_for_fewer_steps(self):
        self.assertEqual(self.followed(SHORTER_WITH_TWO, World(), (0, "done")), (3, 2))
        # With no part of the items in the other list, the same takes 7 steps.
        alone = run(SHORTER_WITH_TWO, World(), 1, (("part", ()),))
        self.assertEqual([len(alone), alone.result(0)], [7, (0, "done")])

    def test_many_items(self):
        gates = ("part", "a", "b"), ("if", "b", (("tell", "b", "failed"),), (("end",),))
        program = of(*(("times", 3, gates),) * 3, ("tell", "a", "done"))
        self.assertEqual(self.followed(program, World(), (0, "done")), (31, 10))
        self.assertEqual(self.followed(ONE_EACH_ROUND, World("whole"), (0, "done")), (11, 4))

    def test_many_steps(self):
        deep = ("times", 3, (("times", 3, (("move", "a", "a"),) * 7),))
        program = of(deep, deep, ("tell", "a", "done"))
        self.assertEqual(self.followed(program, World(), (0, "done")), (135, 1))


class Drawn(WayCase):
    def test_least_numbers_are_those_of_a_few_items(self):
        compared, many = 0, 0
        for seed in range(700):
            draws = Draws(600000 + seed)
            program, world = drawn_program(draws), drawn_world(draws)
            found = {result: self.followed(program, world, result) for result in EVERY_RESULT}
            self.assertEqual([result for result in EVERY_RESULT if found[result]], results(program, world))
            many += any(numbers is not None and numbers[1] > 1 for numbers in found.values())
            for items in (1, 2, 3):
                try:
                    reached = explorer.least_steps(program, world, items, 6000)
                except explorer.TooMany:
                    break
                compared += 1
                for result, numbers in found.items():
                    about = (seed, program.lists, program.block, program.kept, vars(world), items, result, numbers)
                    if numbers is None or items < numbers[1]:
                        # Too few items take more steps, if they can do it at all.
                        self.assertGreater(reached.get(result, 10 ** 9), 0 if numbers is None else numbers[0], about)
                        self.assertFalse(numbers is None and result in reached, about)
                    else:
                        self.assertEqual(reached.get(result), numbers[0], about)
        self.assertGreater(compared, 1800)
        self.assertGreater(many, 10)


class Endless(unittest.TestCase):
    def test_runs_that_were_worked_out_by_hand(self):
        for program, world, expected in ENDLESS:
            with self.subTest(block=program.block, world=vars(world)):
                for items in (1, 2, 3):
                    self.assertIs(goes_on(program, world, items), expected[items - 1])

    def test_runs_of_a_few_items(self):
        endless, ending = 0, 0
        for seed in range(500):
            draws = Draws(700000 + seed)
            program, world = drawn_program(draws, 4), drawn_world(draws)
            for items in (1, 2):
                try:
                    expected = explorer.is_endless(program, world, items, 1500)
                except explorer.TooMany:
                    break
                self.assertIs(goes_on(program, world, items), expected, (seed, program.block, vars(world), items))
                endless, ending = endless + expected, ending + (not expected)
        self.assertGreater(min(endless, ending), 100)

    def test_programs_without_loops_and_breaks_end(self):
        for program, world, _ in RESULTS:
            if world.breaks is not None and not list(program.paths("while")):
                self.assertIs(goes_on(program, world, 2), False)


class Calls(unittest.TestCase):
    def test_the_functions_stand_in_their_file(self):
        for function in (least, way, goes_on):
            self.assertEqual(function.__module__, "answerparts.reaching")

    def test_the_same_calls_again_with_others_between(self):
        calls = [(program, world, result) for program, world, result, _ in LEAST[:40]]
        first = [(least(*call), way(*call), goes_on(*call[:2], 2)) for call in calls]
        second_time = [(least(*call), way(*call), goes_on(*call[:2], 2)) for call in calls[::-1]]
        self.assertEqual(second_time[::-1], first)

    def test_programs_and_worlds_are_as_they_were(self):
        program, world = of(*RETRY.block, kept=("b",)), World(lost=2, breaks=1, late=True)
        least(program, world, (2, "done"))
        way(program, world, (2, "done"))
        goes_on(program, world, 3)
        self.assertEqual([program, world], [of(*RETRY.block, kept=("b",)), World(lost=2, breaks=1, late=True)])
        self.assertEqual(least(OF_THE_INTERFACE, World(), (0, "failed")), (5, 2))


if __name__ == "__main__":
    unittest.main()
