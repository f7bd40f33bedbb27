"""Tests of answerparts/runs.py: point 5, what each statement does, alone and within blocks."""

import unittest

from playing import RunCase, program_of

SPLIT = ("part", "a", "b")
END = ("end",)


class Moving(RunCase):
    def test_a_program_without_statements(self):
        outcome = self.done(program_of(), 2)
        self.assertEqual([outcome.trace, outcome.lists, outcome.counts], [(), ("a", "a"), (0, 0)])
        self.assertEqual([outcome.told, len(outcome), outcome.result(1)], [(None, None), 0, (0, None)])

    def test_all_items_are_in_the_first_list_at_first(self):
        self.assertEqual(self.done(program_of(lists=("z", "y")), 3).lists, ("z", "z", "z"))

    def test_move(self):
        self.assertEqual(self.done(program_of(("move", "a", "b")), 2).lists, ("b", "b"))
        self.assertEqual(self.done(program_of(("move", "a", "a")), 2).lists, ("a", "a"))
        self.assertEqual(self.done(program_of(("move", "b", "c")), 2).lists, ("a", "a"))
        self.assertEqual(self.done(program_of(("move", "a", "b"), ("move", "b", "c")), 2).lists, ("c", "c"))
        outcome = self.done(program_of(SPLIT, ("move", "a", "b")), 2, ("part", (1,)))
        self.assertEqual(outcome.lists, ("b", "b"))

    def test_part_of_none_some_and_all(self):
        self.assertEqual(self.done(program_of(SPLIT), 3, ("part", ())).lists, ("a", "a", "a"))
        self.assertEqual(self.done(program_of(SPLIT), 3, ("part", (1,))).lists, ("a", "b", "a"))
        self.assertEqual(self.done(program_of(SPLIT), 3, ("part", (0, 2))).lists, ("b", "a", "b"))
        self.assertEqual(self.done(program_of(SPLIT), 3, ("part", (0, 1, 2))).lists, ("b", "b", "b"))
        self.assertEqual(self.done(program_of(("part", "a", "a")), 2, ("part", (1,))).lists, ("a", "a"))

    def test_part_takes_of_its_list_only(self):
        program = program_of(SPLIT, ("part", "b", "c"), SPLIT)
        outcome = self.done(program, 3, ("part", (0, 2)), ("part", (2,)), ("part", ()))
        self.assertEqual(outcome.lists, ("b", "a", "c"))
        self.refused(1, program_of(SPLIT, ("part", "b", "c")), 3, ("part", (0, 2)), ("part", (1,)))

    def test_part_of_a_list_without_items_takes_no_event(self):
        outcome = self.played(program_of(("part", "b", "c")), 2, ("part", ()))
        self.assertEqual([outcome.ending, outcome.taken, outcome.trace], ["done", 0, ((0,),)])
        outcome = self.done(program_of(("part", "b", "c"), SPLIT), 2, ("part", (0,)))
        self.assertEqual([outcome.lists, outcome.trace], [("b", "a"), ((0,), (1,))])

    def test_tell(self):
        outcome = self.done(program_of(("tell", "a", "done")), 2)
        self.assertEqual([outcome.lists, outcome.told], [(None, None), ("done", "done")])
        outcome = self.done(program_of(("tell", "b", "done")), 2)
        self.assertEqual([outcome.lists, outcome.told], [("a", "a"), (None, None)])

    def test_what_was_told_has_left_for_good(self):
        block = (SPLIT, ("tell", "b", "failed"), ("move", "b", "a"), ("tell", "a", "done"), ("tell", "a", "failed"))
        outcome = self.done(program_of(*block), 3, ("part", (1,)))
        self.assertEqual([outcome.lists, outcome.told], [(None,) * 3, ("done", "failed", "done")])

    def test_end(self):
        outcome = self.done(program_of(END, ("move", "a", "b")), 1)
        self.assertEqual([outcome.lists, outcome.trace], [("a",), ((0,),)])


class Blocks(RunCase):
    def test_if_with_items_and_without(self):
        program = program_of(("if", "a", (("move", "a", "b"),), (("move", "b", "c"),)), ("move", "b", "a"))
        self.assertEqual(self.done(program, 2).trace, ((0,), (0, 0, 0), (1,)))
        program = program_of(("if", "b", (("move", "a", "b"),), (("move", "a", "c"), END)), ("move", "c", "b"))
        outcome = self.done(program, 2)
        self.assertEqual([outcome.trace, outcome.lists], [((0,), (0, 1, 0), (0, 1, 1)), ("c", "c")])

    def test_if_with_some_items(self):
        program = program_of(SPLIT, ("if", "b", (("tell", "a", "done"),), (("tell", "a", "failed"),)))
        self.assertEqual(self.done(program, 2, ("part", (1,))).told, ("done", None))
        self.assertEqual(self.done(program, 2, ("part", ())).told, ("failed", "failed"))

    def test_if_with_blocks_without_statements(self):
        program = program_of(("if", "a", (), (END,)), ("if", "b", (END,), ()), ("move", "a", "c"))
        outcome = self.done(program, 1)
        self.assertEqual([outcome.trace, outcome.lists], [((0,), (1,), (2,)), ("c",)])

    def test_while_is_executed_once_more_and_then_ends(self):
        program = program_of(("while", "a", (("move", "a", "b"),)), ("move", "b", "c"))
        outcome = self.done(program, 1)
        self.assertEqual([outcome.trace, outcome.lists], [((0,), (0, 0, 0), (0,), (1,)), ("c",)])

    def test_while_without_items_ends_at_once(self):
        self.assertEqual(self.done(program_of(("while", "b", (END,)), ("move", "a", "b")), 1).trace, ((0,), (1,)))

    def test_while_goes_on_as_long_as_there_are_items(self):
        program = program_of(("while", "a", (SPLIT, ("tell", "b", "done"))))
        outcome = self.done(program, 2, ("part", ()), ("part", (0,)), ("part", (1,)))
        self.assertEqual(outcome.trace, ((0,), (0, 0, 0), (0, 0, 1)) * 3 + ((0,),))

    def test_while_without_statements_never_ends(self):
        outcome = self.played(program_of(("while", "a", ())), 1, limit=7)
        self.assertEqual([outcome.ending, outcome.trace], ["long", ((0,),) * 7])

    def test_times_with_no_round_and_with_three(self):
        program = program_of(("times", 0, (END,)), ("move", "a", "b"))
        self.assertEqual(self.done(program, 1).trace, ((0,), (1,)))
        for number in (1, 2, 3):
            program = program_of(("times", number, (("move", "a", "b"), ("move", "b", "a"))), ("move", "a", "c"))
            self.assertEqual(self.done(program, 1).trace, ((0,),) + ((0, 0, 0), (0, 0, 1)) * number + ((1,),))

    def test_times_without_statements(self):
        self.assertEqual(self.done(program_of(("times", 3, ()), ("move", "a", "b")), 1).trace, ((0,), (1,)))
        self.assertEqual(self.done(program_of(("times", 3, ())), 1).trace, ((0,),))

    def test_times_in_times(self):
        program = program_of(("times", 2, (("times", 3, (("move", "a", "a"),)), ("move", "a", "a"))))
        inner = ((0, 0, 0),) + ((0, 0, 0, 0, 0),) * 3 + ((0, 0, 1),)
        self.assertEqual(self.done(program, 1).trace, ((0,),) + inner * 2)

    def test_times_begins_with_all_its_rounds_again(self):
        program = program_of(("while", "a", (("times", 2, (SPLIT,)),)))
        outcome = self.done(program, 1, ("part", ()), ("part", ()), ("part", ()), ("part", (0,)))
        self.assertEqual(outcome.trace, ((0,), (0, 0, 0), (0, 0, 0, 0, 0), (0, 0, 0, 0, 0)) * 2 + ((0,),))

    def test_the_last_statements_of_blocks_in_blocks(self):
        program = program_of(("if", "a", (("times", 1, (("if", "b", (), ()),)),), ()), ("while", "b", ()), END)
        self.assertEqual(self.done(program, 1).trace, ((0,), (0, 0, 0), (0, 0, 0, 0, 0), (1,), (2,)))

    def test_end_within_blocks(self):
        for block in (
            (("if", "a", (("while", "a", (END, ("move", "a", "b"))), ("move", "a", "b")), ()), ("move", "a", "b")),
            (("while", "a", (("times", 3, (END,)), ("move", "a", "b"))), ("move", "a", "b")),
            (("times", 3, (("if", "b", (), (END,)), ("move", "a", "b"))), ("move", "a", "b")),
        ):
            with self.subTest(block=block):
                outcome = self.done(program_of(*block), 2)
                self.assertEqual([outcome.lists, len(outcome)], [("a", "a"), 3])

    def test_end_within_the_block_of_a_lost_answer(self):
        for word in ("send", "keyed", "look"):
            block = (("move", "a", "c"), END, ("move", "c", "a"))
            program = program_of((word, "a", "b", "c", block), ("move", "c", "b"))
            outcome = self.done(program, 1, ("lost", ()))
            self.assertEqual([outcome.trace, outcome.lists], [((0,), (0, 0, 0), (0, 0, 1)), ("c",)])


if __name__ == "__main__":
    unittest.main()
