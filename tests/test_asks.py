"""Tests of answerparts/runs.py: points 6 and 7, asks, what is known, looks, breaks, and what is done late."""

import itertools
import unittest

from answerparts.worlds import World
from playing import ANY, LATE, WHOLE, WHOLE_LATE, RunCase, program_of

SEND = ("send", "a", "b", "c", ())
KEYED = ("keyed", "a", "b", "c", ())
LOOK = ("look", "a", "b", "c", ())
BACK = (("move", "b", "a"), ("move", "c", "a"))


class Asks(RunCase):
    def test_a_list_without_items(self):
        for word in ("send", "keyed", "look"):
            program = program_of((word, "b", "c", "a", (("end",),)), ("move", "a", "b"))
            for history in ((), (("answer", ()),), (("lost", ()),)):
                outcome = self.played(program, 2, *history)
                self.assertEqual([outcome.ending, outcome.taken], ["done", 0])
                self.assertEqual([outcome.trace, outcome.lists], [((0,), (1,)), ("b", "b")])

    def test_answers_with_all_some_and_none_done(self):
        for statement in (SEND, KEYED):
            for done in ((), (0,), (2,), (0, 2), (0, 1, 2)):
                outcome = self.done(program_of(statement), 3, ("answer", done))
                self.assertEqual(outcome.counts, tuple(int(item in done) for item in range(3)))
                self.assertEqual(outcome.lists, tuple("b" if item in done else "c" for item in range(3)))
                self.assertEqual(outcome.trace, ((0,),))

    def test_the_same_list_for_what_was_done_and_what_failed(self):
        for word in ("send", "keyed"):
            outcome = self.done(program_of((word, "a", "a", "a", ())), 2, ("answer", (1,)))
            self.assertEqual([outcome.lists, outcome.counts], [("a", "a"), (0, 1)])

    def test_lost_answers(self):
        for word in ("send", "keyed"):
            program = program_of((word, "a", "b", "c", (("move", "b", "c"),)), ("end",))
            for done in ((), (0,), (1,), (0, 1)):
                outcome = self.done(program, 2, ("lost", done))
                self.assertEqual(outcome.counts, tuple(int(item in done) for item in range(2)))
                self.assertEqual([outcome.lists, outcome.trace], [("a", "a"), ((0,), (0, 0, 0), (1,))])

    def test_the_block_is_only_for_lost_answers(self):
        for word in ("send", "keyed", "look"):
            program = program_of((word, "a", "b", "b", (("end",),)), ("move", "b", "c"))
            self.assertEqual(self.done(program, 1, ("answer", ())).trace, ((0,), (1,)))
            self.assertEqual(self.done(program, 1, ("lost", ())).trace, ((0,), (0, 0, 0)))

    def test_an_ask_has_the_items_of_its_list_only(self):
        program = program_of(("part", "a", "b"), SEND, ("send", "b", "a", "c", ()))
        outcome = self.done(program, 3, ("part", (1,)), ("answer", (2,)), ("answer", (1,)))
        self.assertEqual([outcome.counts, outcome.lists], [(0, 1, 1), ("c", "a", "c")])
        self.refused(1, program, 3, ("part", (1,)), ("answer", (1, 2)))

    def test_send_does_again_what_was_done(self):
        outcome = self.done(program_of(SEND, *BACK, SEND, *BACK, SEND), 1, *(("answer", (0,)),) * 3)
        self.assertEqual([outcome.counts, outcome.result(0)], [(3,), (2, None)])


class Known(RunCase):
    def test_keyed_does_not_do_again_what_is_known(self):
        program = program_of(KEYED, *BACK, KEYED)
        outcome = self.done(program, 2, ("answer", (0,)), ("answer", ()))
        self.assertEqual([outcome.counts, outcome.lists], [(1, 0), ("b", "c")])
        outcome = self.done(program, 2, ("answer", (0,)), ("answer", (1,)))
        self.assertEqual([outcome.counts, outcome.lists], [(1, 1), ("b", "b")])
        for items in ((0,), (0, 1)):
            self.refused(1, program, 2, ("answer", (0,)), ("answer", items))
            self.refused(1, program, 2, ("answer", (0,)), ("lost", items))

    def test_what_a_lost_keyed_ask_did_is_known(self):
        outcome = self.done(program_of(KEYED, KEYED), 2, ("lost", (1,)), ("answer", ()))
        self.assertEqual([outcome.counts, outcome.lists], [(0, 1), ("c", "b")])
        outcome = self.done(program_of(KEYED, KEYED, KEYED), 2, ("lost", (1,)), ("lost", ()), ("answer", (0,)))
        self.assertEqual([outcome.counts, outcome.lists], [(1, 1), ("b", "b")])

    def test_if_all_are_known_none_fails(self):
        for world in (World(lost=1, fails=0), World("whole", lost=1, fails=0)):
            outcome = self.done(program_of(KEYED, KEYED), 2, ("lost", (0, 1)), ("answer", ()), world=world)
            self.assertEqual([outcome.counts, outcome.lists], [(1, 1), ("b", "b")])

    def test_what_send_did_is_not_known(self):
        outcome = self.done(program_of(SEND, *BACK, KEYED), 2, ("answer", (0, 1)), ("answer", (0,)))
        self.assertEqual([outcome.counts, outcome.lists], [(2, 1), ("b", "c")])

    def test_known_items_in_a_send_ask(self):
        for world in (ANY, WHOLE):
            for done in ((0, 1), ()):
                history = (("answer", (0, 1)), ("answer", done))
                outcome = self.done(program_of(KEYED, *BACK, SEND), 2, *history, world=world)
                self.assertEqual(outcome.counts, (2, 2) if done else (1, 1))
                self.assertEqual(outcome.lists, ("b", "b") if done else ("c", "c"))
        # A known item that fails in a "send" ask has failed.
        world = World(fails=0)
        self.refused(1, program_of(KEYED, *BACK, SEND), 2, ("answer", (0, 1)), ("answer", ()), world=world)

    def test_the_mode_whole_with_known_and_unknown_items(self):
        program = program_of(("part", "a", "b"), KEYED, ("move", "c", "a"), *BACK, KEYED)
        ahead = (("part", (2,)), ("answer", (0, 1)))
        outcome = self.done(program, 3, *ahead, ("answer", (2,)), world=WHOLE)
        self.assertEqual([outcome.counts, outcome.lists], [(1, 1, 1), ("b", "b", "b")])
        outcome = self.done(program, 3, *ahead, ("answer", ()), world=WHOLE)
        self.assertEqual([outcome.counts, outcome.lists], [(1, 1, 0), ("b", "b", "c")])
        for items in ((0, 1, 2), (0,), (0, 2)):
            self.refused(2, program, 3, *ahead, ("answer", items), world=WHOLE)
        # Only the unknown one has failed, but it has.
        self.refused(2, program, 3, *ahead, ("answer", ()), world=World("whole", fails=0))

    def test_the_mode_whole(self):
        for statement in (SEND, KEYED):
            for word, done in itertools.product(("answer", "lost"), ((), (0, 1, 2))):
                outcome = self.done(program_of(statement), 3, (word, done), world=WHOLE)
                self.assertEqual(outcome.counts, (1, 1, 1) if done else (0, 0, 0))
            for word, done in itertools.product(("answer", "lost"), ((0,), (2,), (0, 1), (1, 2))):
                self.refused(0, program_of(statement), 3, (word, done), world=WHOLE)

    def test_part_is_item_by_item_in_the_mode_whole(self):
        self.assertEqual(self.done(program_of(("part", "a", "b")), 2, ("part", (1,)), world=WHOLE).lists, ("a", "b"))


class Looks(RunCase):
    def test_items_that_were_done_once_and_never(self):
        for statement in (SEND, KEYED):
            program = program_of(statement, *BACK, LOOK)
            outcome = self.done(program, 3, ("answer", (1,)), ("answer", ()))
            self.assertEqual([outcome.lists, outcome.counts], [("c", "b", "c"), (0, 1, 0)])
            outcome = self.done(program_of(statement, LOOK), 2, ("lost", (1,)), ("answer", ()))
            self.assertEqual([outcome.lists, outcome.counts], [("c", "b"), (0, 1)])

    def test_a_lost_look(self):
        program = program_of(("look", "a", "b", "c", (LOOK,)), ("tell", "c", "failed"))
        outcome = self.done(program, 2, ("lost", ()), ("answer", ()))
        self.assertEqual([outcome.trace, outcome.told], [((0,), (0, 0, 0), (1,)), ("failed", "failed")])
        outcome = self.done(program, 2, ("lost", ()), ("lost", ()))
        self.assertEqual(outcome.lists, ("a", "a"))

    def test_a_look_has_no_items_in_its_events(self):
        for word, items in itertools.product(("answer", "lost"), ((0,), (1,), (0, 1))):
            self.refused(0, program_of(LOOK), 2, (word, items))
            self.refused(0, program_of(LOOK), 2, (word, items), world=WHOLE)

    def test_items_that_a_look_does_not_find_have_not_failed(self):
        self.assertEqual(self.done(program_of(LOOK), 1, ("answer", ()), world=World(fails=0)).lists, ("c",))

    def test_an_item_that_is_done_late(self):
        for word in ("send", "keyed"):
            program = program_of((word, "a", "b", "c", ()), LOOK, ("move", "c", "a"), LOOK)
            late = ("late", 0, word)
            outcome = self.done(program, 2, ("lost", ()), late, ("answer", ()), ("answer", ()), world=LATE)
            self.assertEqual([outcome.lists, outcome.counts], [("b", "c"), (1, 0)])
            outcome = self.done(program, 1, ("lost", ()), ("answer", ()), late, ("answer", ()), world=LATE)
            self.assertEqual([outcome.lists, outcome.counts], [("b",), (1,)])


class Breaks(RunCase):
    def test_a_break_ahead_of_the_first_statement(self):
        outcome = self.done(program_of(("move", "a", "b")), 1, ("break", 0), ("break", 0))
        self.assertEqual([outcome.trace, outcome.lists], [((0,),), ("b",)])

    def test_no_some_and_all_lists_kept(self):
        block = (("part", "a", "b"), ("part", "a", "c"), ("end",))
        ahead = (("part", (1,)), ("part", (2,)), ("break", 2))
        for kept, lists in (
            ((), ("a", "a", "a")),
            (("b",), ("a", "b", "a")),
            (("c",), ("a", "a", "c")),
            (("b", "c"), ("a", "b", "c")),
            (("a", "b", "c"), ("a", "b", "c")),
            (("a",), ("a", "a", "a")),
        ):
            with self.subTest(kept=kept):
                outcome = self.played(program_of(*block, kept=kept), 3, *ahead)
                self.assertEqual([outcome.ending, outcome.taken, outcome.lists], ["waiting", 3, lists])
                self.assertEqual(outcome.trace, ((0,), (1,)))

    def test_what_was_told_stays_told(self):
        program = program_of(("part", "a", "b"), ("tell", "b", "done"), ("end",))
        outcome = self.done(program, 2, ("part", (0,)), ("break", 2), ("part", ()))
        self.assertEqual([outcome.lists, outcome.told], [(None, "a"), ("done", None)])

    def test_a_break_in_a_block(self):
        program = program_of(("if", "a", (("move", "a", "b"), ("move", "b", "c")), ()), ("end",))
        outcome = self.done(program, 1, ("break", 2))
        self.assertEqual(outcome.trace, ((0,), (0, 0, 0), (0,), (0, 0, 0), (0, 0, 1), (1,)))
        self.assertEqual(outcome.lists, ("c",))

    def test_a_break_in_a_times(self):
        program = program_of(("times", 3, (("move", "a", "a"),)))
        outcome = self.done(program, 1, ("break", 3))
        self.assertEqual(outcome.trace, ((0,),) + ((0, 0, 0),) * 2 + ((0,),) + ((0, 0, 0),) * 3)

    def test_a_break_in_the_block_of_a_lost_answer(self):
        program = program_of(("send", "a", "b", "c", (("move", "a", "c"), ("end",))))
        outcome = self.done(program, 1, ("lost", (0,)), ("break", 2), ("answer", (0,)))
        self.assertEqual([outcome.trace, outcome.counts], [((0,), (0, 0, 0), (0,)), (2,)])

    def test_what_is_known_stays_known(self):
        outcome = self.done(program_of(KEYED, ("end",)), 2, ("answer", (0,)), ("break", 1), ("answer", ()))
        self.assertEqual([outcome.counts, outcome.lists], [(1, 0), ("b", "c")])

    def test_no_break_at_the_end(self):
        outcome = self.played(program_of(("move", "a", "b")), 1, ("break", 1))
        self.assertEqual([outcome.ending, outcome.taken, outcome.lists], ["done", 0, ("b",)])
        self.assertEqual(self.played(program_of(), 1, ("break", 0)).taken, 0)


class LateDoings(RunCase):
    def test_ahead_of_a_statement_and_after_the_end(self):
        for word in ("send", "keyed"):
            program = program_of((word, "a", "b", "c", ()), ("move", "a", "b"))
            for world in (LATE, WHOLE_LATE):
                outcome = self.done(program, 2, ("lost", ()), ("late", 1, word), ("late", 0, word), world=world)
                self.assertEqual([outcome.counts, outcome.lists], [(1, 1), ("b", "b")])
                outcome = self.done(program, 2, ("lost", ()), ("late", 1, word), world=world)
                self.assertEqual(outcome.counts, (0, 1))

    def test_at_the_limit_and_while_the_run_waits(self):
        program = program_of(SEND, ("move", "b", "c"), KEYED)
        outcome = self.played(program, 1, ("lost", ()), ("late", 0, "send"), world=LATE, limit=1)
        self.assertEqual([outcome.ending, outcome.taken, outcome.counts], ["long", 2, (1,)])
        outcome = self.played(program, 1, ("lost", ()), ("late", 0, "send"), world=LATE)
        self.assertEqual([outcome.ending, outcome.taken, outcome.counts], ["waiting", 2, (1,)])

    def test_an_item_that_was_told(self):
        program = program_of(SEND, ("tell", "a", "failed"), ("if", "a", (), ()), ("end",))
        outcome = self.done(program, 1, ("lost", ()), ("break", 3), ("late", 0, "send"), world=LATE)
        self.assertEqual([outcome.result(0), outcome.lists], [(1, "failed"), (None,)])

    def test_what_was_done_at_once_is_not_pending(self):
        for word in ("send", "keyed"):
            program = program_of((word, "a", "b", "c", ()))
            self.refused(1, program, 2, ("lost", (1,)), ("late", 1, word), world=LATE)
            self.refused(2, program, 2, ("lost", (1,)), ("late", 0, word), ("late", 0, word), world=LATE)

    def test_what_failed_is_not_pending(self):
        for word in ("send", "keyed"):
            self.refused(1, program_of((word, "a", "b", "c", ())), 1, ("answer", ()), ("late", 0, word), world=LATE)

    def test_a_world_without_late(self):
        for word in ("send", "keyed"):
            self.refused(1, program_of((word, "a", "b", "c", ())), 1, ("lost", ()), ("late", 0, word), world=ANY)

    def test_a_lost_look_leaves_nothing_pending(self):
        for word in ("send", "keyed"):
            self.refused(1, program_of(LOOK), 1, ("lost", ()), ("late", 0, word), world=LATE)

    def test_an_item_of_two_lost_asks(self):
        late = ("late", 0, "send")
        program = program_of(SEND, SEND)
        outcome = self.done(program, 1, ("lost", ()), ("lost", ()), late, late, world=LATE)
        self.assertEqual(outcome.counts, (2,))
        outcome = self.done(program, 1, ("lost", ()), late, ("lost", ()), late, world=LATE)
        self.assertEqual(outcome.counts, (2,))
        outcome = self.done(program, 1, ("lost", (0,)), ("lost", ()), late, world=LATE)
        self.assertEqual(outcome.counts, (2,))
        self.refused(4, program, 1, ("lost", ()), ("lost", ()), late, late, late, world=LATE)
        self.refused(3, program, 1, ("lost", (0,)), ("lost", ()), late, late, world=LATE)

    def test_keyed_asks_that_were_lost_twice(self):
        late = ("late", 0, "keyed")
        program = program_of(KEYED, KEYED)
        self.assertEqual(self.done(program, 1, ("lost", ()), ("lost", ()), late, world=LATE).counts, (1,))
        self.refused(3, program, 1, ("lost", ()), ("lost", ()), late, late, world=LATE)
        # The second ask did it, so that the first one does not.
        self.refused(2, program, 1, ("lost", ()), ("lost", (0,)), late, world=LATE)
        self.refused(2, program, 1, ("lost", ()), ("answer", (0,)), late, world=LATE)
        # It failed in the second ask, and the first one can still do it.
        self.assertEqual(self.done(program, 1, ("lost", ()), ("answer", ()), late, world=LATE).result(0), (1, None))

    def test_a_known_item_is_pending_of_no_keyed_ask(self):
        program = program_of(KEYED, KEYED)
        outcome = self.done(program, 2, ("lost", (0,)), ("lost", ()), ("late", 1, "keyed"), world=LATE)
        self.assertEqual(outcome.counts, (1, 1))
        self.refused(2, program, 2, ("lost", (0,)), ("lost", ()), ("late", 0, "keyed"), world=LATE)

    def test_what_is_done_late_by_a_keyed_ask_is_known(self):
        for world in (LATE, WHOLE_LATE):
            program = program_of(KEYED, KEYED)
            ahead = (("lost", ()), ("late", 1, "keyed"))
            outcome = self.done(program, 2, *ahead, ("answer", ()), world=world)
            self.assertEqual([outcome.counts, outcome.lists], [(0, 1), ("c", "b")])
            outcome = self.done(program, 2, *ahead, ("answer", (0,)), world=world)
            self.assertEqual([outcome.counts, outcome.lists], [(1, 1), ("b", "b")])
            self.refused(2, program, 2, *ahead, ("answer", (0, 1)), world=world)

    def test_a_late_send_does_again_what_is_known(self):
        program = program_of(SEND, KEYED)
        outcome = self.done(program, 1, ("lost", ()), ("answer", (0,)), ("late", 0, "send"), world=LATE)
        self.assertEqual([outcome.counts, outcome.lists], [(2,), ("b",)])

    def test_pending_of_both_words(self):
        program = program_of(SEND, KEYED)
        lost = (("lost", ()), ("lost", ()))
        late = (("late", 0, "send"), ("late", 0, "keyed"))
        for order in (late, late[::-1]):
            self.assertEqual(self.done(program, 1, *lost, *order, world=LATE).counts, (2,))
        self.refused(1, program, 1, lost[0], late[1], world=LATE)

    def test_what_is_pending_stays_so_behind_a_break(self):
        outcome = self.done(program_of(SEND), 1, ("lost", ()), ("late", 0, "send"), world=LATE)
        self.assertEqual(outcome.counts, (1,))
        program = program_of(SEND, ("end",))
        outcome = self.done(program, 1, ("lost", ()), ("break", 1), ("late", 0, "send"), ("answer", ()), world=LATE)
        self.assertEqual([outcome.counts, outcome.lists], [(1,), ("c",)])


if __name__ == "__main__":
    unittest.main()
