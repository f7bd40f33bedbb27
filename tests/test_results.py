"""Tests of answerparts/reaching.py: point 10, the results that are possible."""

import itertools
import unittest

import explorer
from answerparts.reaching import alike, is_right, results
from answerparts.worlds import World
from catalogue import (
    DONE_1, DONE_2, FAILED_0, FAILED_1, RESULTS, RETRY, RETRY_KEYED, RIGHT, SEND, SIMPLE, SIMPLE_KEYED, TELLS, of,
)
from draws import Draws, drawn_program, drawn_world

# The order of point 10: by counts, then None ahead of any word.
IN_ORDER = [(count, word) for count in (0, 1, 2) for word in (None, "done", "failed")]

ANYTHING = {"lost": None, "breaks": None, "fails": None, "late": True}


class ByHand(unittest.TestCase):
    def test_results_that_were_worked_out_by_hand(self):
        for program, world, expected in RESULTS:
            with self.subTest(block=program.block, kept=program.kept, world=vars(world)):
                found = results(program, world)
                self.assertIs(type(found), list)
                self.assertEqual(found, expected)

    def test_counts_and_words_are_of_their_kinds(self):
        for result in results(SIMPLE, World(breaks=None)):
            self.assertEqual([type(result), type(result[0])], [tuple, int])

    def test_all_nine_results_at_once(self):
        block = (("part", "a", "b"), ("part", "a", "c"), TELLS[0], TELLS[1])
        program = of(("send", "a", "a", "a", ()), ("send", "a", "a", "a", ()), *block)
        for mode in ("each", "whole"):
            self.assertEqual(results(program, World(mode)), IN_ORDER)
        self.assertEqual(results(of(("send", "a", "a", "a", ()), *block), World()), IN_ORDER[:6])

    def test_numbers_make_a_difference(self):
        sends = (("send", "a", "b", "a", ()),)
        # So many asks fail one after the other, or are lost.
        for many in (1, 2, 3):
            program = of(*sends * many, TELLS[0], ("tell", "a", "failed"))
            for number in (0, 1, 2, 3, None):
                is_enough = number is None or number >= many
                self.assertEqual((0, "failed") in results(program, World(fails=number)), is_enough)
                self.assertEqual((0, "failed") in results(program, World(fails=0, lost=number)), is_enough)
                self.assertEqual((0, "failed") in results(program, World(fails=0, lost=number, late=True)), is_enough)
        # From one break to the next, an item gets no further than one list.
        for many in (1, 2, 3):
            names = ("a", "b", "c", "d")[: many + 1]
            moves = tuple(("move", names[at], names[at + 1]) for at in reversed(range(many)))
            program = of(("tell", names[-1], "done"), *moves, ("end",), kept=names[1:], lists=names)
            for number in (0, 1, 2, 3, None):
                is_enough = number is None or number >= many
                self.assertEqual((0, "done") in results(program, World(breaks=number)), is_enough)

    def test_any_number_of_items(self):
        # Each round takes an item away: so many others there must be.
        for rounds in (1, 2, 3):
            gates = ("part", "a", "b"), ("if", "b", (("tell", "b", "failed"),), (("end",),))
            program = of(*(("times", rounds, gates),) * 3, ("tell", "a", "done"))
            self.assertEqual(results(program, World()), [(0, None), (0, "done"), (0, "failed")])


class Right(unittest.TestCase):
    def test_where_it_is_true(self):
        for program, world in (
            (SIMPLE, World()), (SIMPLE, World("whole")), (SIMPLE, World(fails=0)), (RETRY, World()),
            (RETRY_KEYED, World(**ANYTHING)), (SIMPLE_KEYED, World(breaks=None)), (of(("while", "a", ())), World()),
            (of(("tell", "a", "failed")), World(**ANYTHING)),
        ):
            self.assertIs(is_right(program, world), True)

    def test_where_it_is_false(self):
        for program, world in (
            (SIMPLE, World(lost=1)), (SIMPLE, World(breaks=1)), (SIMPLE, World(breaks=1, fails=0)),
            (RETRY, World(lost=1)), (SIMPLE_KEYED, World(lost=1, late=True)), (of(), World()),
            (of(("tell", "a", "done")), World()),
            (of(SEND, ("tell", "b", "failed"), ("tell", "c", "failed")), World()),
        ):
            self.assertIs(is_right(program, world), False)

    def test_it_is_what_the_results_say(self):
        for program, world, expected in RESULTS:
            self.assertIs(is_right(program, world), all(result in RIGHT for result in expected))


class Alike(unittest.TestCase):
    def test_where_it_is_true(self):
        kept = of(SEND, *TELLS, kept=("b", "c"))
        for one, other, world in (
            (SIMPLE, SIMPLE, World(**ANYTHING)),
            (SIMPLE, kept, World(lost=1, late=True)),
            (SIMPLE, SIMPLE_KEYED, World(lost=1)),
            (RETRY, RETRY_KEYED, World()),
            (kept, SIMPLE_KEYED, World(breaks=None)),
            (of(("while", "a", ())), of(("while", "a", (("move", "a", "a"),))), World()),
        ):
            self.assertIs(alike(one, other, world), True)
            self.assertIs(alike(other, one, world), True)

    def test_where_it_is_false(self):
        for one, other, world in (
            (SIMPLE, of(SEND, *TELLS, kept=("b", "c")), World(breaks=1)),
            (SIMPLE, SIMPLE_KEYED, World(breaks=1)),
            (RETRY, RETRY_KEYED, World(lost=1)),
            (RETRY, RETRY_KEYED, World(breaks=1)),
            (SIMPLE, RETRY, World()),
            (of(("tell", "a", "done")), of(("tell", "a", "failed")), World()),
            (of(("while", "a", ())), of(), World()),
        ):
            self.assertIs(alike(one, other, world), False)
            self.assertIs(alike(other, one, world), False)


class Drawn(unittest.TestCase):
    def test_all_that_a_few_items_reach_is_among_the_results(self):
        compared = 0
        for seed in range(700):
            draws = Draws(300000 + seed)
            program, world = drawn_program(draws), drawn_world(draws)
            found = results(program, world)
            for items in (1, 2, 3):
                try:
                    reached = explorer.least_steps(program, world, items, 6000)
                except explorer.TooMany:
                    break
                compared += 1
                missing = [result for result in reached if result not in found]
                self.assertEqual(missing, [], (seed, program.lists, program.block, program.kept, vars(world), items))
        self.assertGreater(compared, 1800)

    def test_a_milder_world_has_no_other_results(self):
        for seed in range(150):
            draws = Draws(400000 + seed)
            program, one, other = drawn_program(draws), drawn_world(draws), drawn_world(draws)
            if one.mode != other.mode:
                continue
            found = [results(program, world) for world in (one, other, one | other)]
            for result in found[0] + found[1]:
                self.assertIn(result, found[2], (seed, program.block, vars(one), vars(other)))

    def test_results_are_in_order_and_not_repeated(self):
        for seed in range(150):
            draws = Draws(500000 + seed)
            found = results(drawn_program(draws), drawn_world(draws))
            self.assertEqual(found, [result for result in IN_ORDER if result in found])


class Calls(unittest.TestCase):
    def test_the_functions_stand_in_their_file(self):
        for function in (results, is_right, alike):
            self.assertEqual(function.__module__, "answerparts.reaching")

    def test_the_same_calls_again_with_others_between(self):
        worlds = (World(), World(breaks=1), World(lost=1, late=True))
        calls = list(itertools.product((SIMPLE, RETRY, SIMPLE_KEYED), worlds))
        first = [results(program, world) for program, world in calls]
        copies = [list(found) for found in first]
        for found in first:
            found.clear()
        self.assertEqual([results(program, world) for program, world in calls[::-1]], copies[::-1])
        self.assertEqual([results(program, world) for program, world in calls], copies)

    def test_programs_and_worlds_are_as_they_were(self):
        program, world = of(SEND, *TELLS, kept=("c",)), World(lost=1, breaks=1, late=True)
        expected = results(program, world)
        is_right(program, world)
        alike(program, SIMPLE, world)
        self.assertEqual([program, world], [of(SEND, *TELLS, kept=("c",)), World(lost=1, breaks=1, late=True)])
        self.assertEqual(results(program, world), expected)
        self.assertEqual(results(SIMPLE, World(breaks=1)), [FAILED_0, DONE_1, FAILED_1, DONE_2])


if __name__ == "__main__":
    unittest.main()
