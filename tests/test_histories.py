"""Tests of answerparts/runs.py: point 8 and the wrong events of point 9."""

import unittest

from answerparts.runs import run
from answerparts.worlds import World
from playing import ANY, LATE, WHOLE, RunCase, program_of

SEND = ("send", "a", "b", "c", ())
KEYED = ("keyed", "a", "b", "c", ())
LOOK = ("look", "a", "b", "c", ())
PART = ("part", "a", "b")
MOVE = ("move", "a", "a")

# Behind these, two items are known to keyed asks.
ANSWERED = (("lost", ()), ("answer", (0, 1)), ("answer", ()))

# What is no event, whatever is needed.
NO_EVENTS = (
    None, 0, 1, True, False, 1.5, "", "answer", "late", b"answer", (), [], {}, {"answer"}, object(), int,
    ["answer", ()], ["answer", (0,)], (None,), (0, 1), (("answer", ()),), ("answer",), ("lost",), ("part",),
    ("answer", (), ()), ("part", (0,), 0), ("answer", None), ("answer", 0), ("answer", "0"), ("answer", []),
    ("part", [0]),
    ("lost", {}), ("Answer", ()), ("answers", ()), ("", ()), ("end",), ("send", ()), ("done", ()), (b"answer", ()),
)


class Equal:
    """Equal to everything, but nothing that a history has."""

    __hash__ = None

    def __eq__(self, other):
        return True


class Taken(RunCase):
    def test_one_event_whenever_a_statement_needs_one(self):
        program = program_of(MOVE, PART, MOVE, SEND, ("move", "c", "a"), LOOK)
        outcome = self.done(program, 3, ("part", (0,)), ("answer", (2,)), ("answer", ()))
        self.assertEqual([outcome.lists, outcome.counts], [("b", "c", "b"), (0, 0, 1)])

    def test_a_break_waits_for_its_steps(self):
        program = program_of(MOVE, MOVE, MOVE, SEND)
        for steps in range(4):
            outcome = self.done(program, 1, ("break", steps), ("answer", (0,)))
            self.assertEqual(outcome.trace, ((0,), (1,), (2,))[:steps] + ((0,), (1,), (2,), (3,)))

    def test_breaks_at_several_steps(self):
        program = program_of(MOVE, MOVE)
        outcome = self.done(program, 1, ("break", 1), ("break", 1), ("break", 2))
        self.assertEqual(outcome.trace, ((0,), (0,), (0,), (1,)))

    def test_a_break_that_waits_beyond_the_end_or_the_limit_is_not_taken(self):
        outcome = self.played(program_of(MOVE, MOVE), 1, ("break", 2))
        self.assertEqual([outcome.ending, outcome.taken], ["done", 0])
        outcome = self.played(program_of(MOVE, MOVE), 1, ("break", 5))
        self.assertEqual([outcome.ending, outcome.taken], ["done", 0])
        outcome = self.played(program_of(MOVE, MOVE, MOVE), 1, ("break", 2), limit=1)
        self.assertEqual([outcome.ending, outcome.taken, len(outcome)], ["long", 0, 1])

    def test_a_break_happens_at_the_limit_too(self):
        outcome = self.played(program_of(("move", "a", "b"), MOVE), 1, ("break", 1), limit=1)
        self.assertEqual([outcome.ending, outcome.taken, outcome.lists], ["long", 1, ("a",)])

    def test_late_and_breaks_come_in_their_order(self):
        program = program_of(SEND, MOVE, KEYED)
        history = (("lost", ()), ("break", 1), ("late", 0, "send"), ("break", 1), ("answer", (0,)), ("answer", ()))
        outcome = self.played(program, 1, *history, world=LATE)
        self.assertEqual([outcome.ending, outcome.taken, outcome.counts], ["done", 5, (2,)])

    def test_a_late_behind_a_break_that_waits_comes_behind_it(self):
        program = program_of(SEND, MOVE, MOVE, ("end",))
        history = (("lost", ()), ("break", 3), ("late", 0, "send"))
        outcome = self.played(program, 1, *history, world=LATE)
        self.assertEqual([outcome.ending, outcome.taken, outcome.counts, len(outcome)], ["waiting", 3, (1,), 3])

    def test_events_behind_the_end(self):
        program = program_of(SEND)
        for event in NO_EVENTS + (("answer", ()), ("lost", ()), ("break", 0), ("break", 1), ("break",), Equal()):
            outcome = run(program, LATE, 1, (("lost", ()), event, ("late", 0, "send")))
            self.assertEqual([outcome.ending, outcome.taken, outcome.counts], ["done", 1, (0,)])
            outcome = run(program, LATE, 1, (("lost", ()), ("late", 0, "send"), event, ("late", 0, "send")))
            self.assertEqual([outcome.ending, outcome.taken, outcome.counts], ["done", 2, (1,)])

    def test_a_wrong_late_behind_the_end(self):
        for event in (("late",), ("late", 0), ("late", 0, "keyed"), ("late", 1, "send"), ("late", None, None)):
            self.refused(1, program_of(SEND), 1, ("lost", ()), event, world=LATE)
            self.refused(0, program_of(), 1, event, world=LATE)

    def test_a_history_is_as_it_was(self):
        history = (("lost", (0,)), ("late", 1, "send"))
        run(program_of(SEND), LATE, 2, history)
        self.assertEqual(history, (("lost", (0,)), ("late", 1, "send")))


class WrongEvents(RunCase):
    def test_values_that_are_no_events(self):
        for event in NO_EVENTS:
            for statement in (SEND, KEYED, LOOK, PART):
                self.refused(0, program_of(statement), 1, event)
                self.refused(1, program_of(PART, MOVE, statement), 2, ("part", (1,)), event)

    def test_a_value_that_is_equal_to_everything(self):
        for event in (Equal(), ("answer", Equal()), (Equal(), ()), ("answer", (Equal(),)), ("part", (Equal(),))):
            self.refused(0, program_of(SEND), 1, event)
            self.refused(0, program_of(PART), 1, event)
        for event in (("late", Equal(), "send"), ("late", 0, Equal()), ("break", Equal())):
            self.refused(1, program_of(SEND, SEND), 1, ("lost", ()), event, world=LATE)

    def test_another_kind_than_needed(self):
        for statement in (SEND, KEYED, LOOK):
            self.refused(0, program_of(statement), 1, ("part", ()))
            self.refused(0, program_of(statement), 1, ("part", (0,)))
        for event in (("answer", ()), ("answer", (0,)), ("lost", ()), ("lost", (0,))):
            self.refused(0, program_of(PART), 1, event)

    def test_items_that_are_not_those_of_the_list(self):
        for word, statement in (("answer", SEND), ("lost", SEND), ("answer", KEYED), ("lost", KEYED), ("part", PART)):
            program = program_of(PART, statement)
            for items in ((0,), (3,), (0, 1), (1, 3), (-1,), (10 ** 30,)):
                self.refused(1, program, 3, ("part", (0,)), (word, items))

    def test_items_that_are_not_ascending(self):
        for word, statement in (("answer", SEND), ("lost", SEND), ("answer", KEYED), ("lost", KEYED), ("part", PART)):
            for items in ((1, 0), (0, 0), (0, 2, 1), (0, 1, 1), (2, 1, 0), (0, 1, 2, 2)):
                self.refused(0, program_of(statement), 3, (word, items))

    def test_items_of_other_kinds(self):
        for word, statement in (("answer", SEND), ("lost", SEND), ("answer", KEYED), ("part", PART)):
            kinds = ((False,), (True,), (0, True), (0.0,), ("0",), (None,), ((0,),), ([0],), [0], {0}, "0", range(1))
            for items in kinds:
                self.refused(0, program_of(statement), 2, (word, items))

    def test_too_many_lost_answers(self):
        for word in ("send", "keyed", "look"):
            program = program_of(*((word, "a", "b", "c", ()),) * 5)
            for lost in (0, 1, 2, 3):
                self.refused(lost, program, 1, *(("lost", ()),) * (lost + 1), world=World(lost=lost))
            self.assertEqual(self.done(program, 1, *(("lost", ()),) * 5).taken, 5)
        program = program_of(LOOK, SEND, KEYED)
        self.refused(2, program, 1, ("lost", ()), ("lost", ()), ("lost", ()), world=World(lost=2))

    def test_too_many_breaks(self):
        program = program_of(MOVE, MOVE)
        for breaks in (0, 1, 2, 3):
            for steps in (0, 1):
                self.refused(breaks, program, 1, *(("break", steps),) * (breaks + 1), world=World(breaks=breaks))
        self.assertEqual(self.done(program, 1, *(("break", 1),) * 5).taken, 5)

    def test_a_break_that_waits_is_wrong_only_when_it_is_taken(self):
        program = program_of(MOVE, MOVE)
        self.refused(0, program, 1, ("break", 1), world=World())
        self.assertEqual(self.played(program, 1, ("break", 2), world=World()).taken, 0)
        self.assertEqual(self.played(program, 1, ("break", 1), world=World(), limit=0).taken, 0)

    def test_too_many_asks_with_failures(self):
        for word in ("send", "keyed"):
            program = program_of(*((word, "a", "b", "a", ()),) * 5)
            for fails in (0, 1, 2, 3):
                self.refused(fails, program, 2, *(("answer", ()),) * (fails + 1), world=World(fails=fails))
            self.assertEqual(self.done(program, 2, *(("answer", ()),) * 5).taken, 5)

    def test_an_ask_has_failures_if_one_item_failed(self):
        program = program_of(*(("send", "a", "a", "a", ()),) * 6)
        for mixed in ((0,), (1,)):
            some, every = ("answer", mixed), ("answer", (0, 1))
            self.refused(3, program, 2, every, some, every, some, world=World(fails=1))
            self.refused(4, program, 2, some, every, every, some, some, world=World(fails=2))
            outcome = self.done(program, 2, some, every, some, every, some, every, world=World(fails=3))
            self.assertEqual(sum(outcome.counts), 9)

    def test_asks_without_failures_do_not_count(self):
        again = ("keyed", "a", "a", "a", ())
        world = World(lost=1, fails=0)
        # What a lost ask did not do has not failed, nor has what is known, nor what a "look" does not find.
        outcome = self.done(program_of(again, again, again, LOOK), 2, *ANSWERED, ("answer", ()), world=world)
        self.assertEqual([outcome.counts, outcome.lists], [(1, 1), ("b", "b")])
        outcome = self.done(program_of(("send", "a", "a", "a", ()), LOOK), 2, ("lost", ()), ("answer", ()), world=world)
        self.assertEqual([outcome.counts, outcome.lists], [(0, 0), ("c", "c")])
        self.refused(3, program_of(again, again, again, SEND), 2, *ANSWERED, ("answer", ()), world=world)

    def test_part_of_an_ask_in_the_mode_whole(self):
        for word, statement in (("answer", SEND), ("lost", SEND), ("answer", KEYED), ("lost", KEYED)):
            for items in ((0,), (1,), (0, 2)):
                self.refused(0, program_of(statement), 3, (word, items), world=WHOLE)

    def test_a_known_item_in_a_keyed_ask(self):
        program = program_of(("keyed", "a", "a", "a", ()), KEYED)
        for word in ("answer", "lost"):
            self.refused(1, program, 2, ("answer", (0,)), (word, (0,)))
            self.refused(1, program, 2, ("answer", (0,)), (word, (0, 1)))

    def test_nothing_pending(self):
        program = program_of(SEND, KEYED)
        for event in (("late", 0, "send"), ("late", 0, "keyed"), ("late", 1, "send")):
            self.refused(0, program, 2, event, world=LATE)
        self.refused(1, program, 2, ("lost", (1,)), ("late", 0, "keyed"), world=LATE)
        self.refused(1, program, 2, ("lost", (1,)), ("late", 1, "send"), world=LATE)

    def test_a_late_of_another_form(self):
        events = (
            ("late",), ("late", 0), ("late", "send"), ("late", 0, "send", 0), ("late", 0, "look"), ("late", 0, "Send"),
            ("late", 0, ""), ("late", 0, None), ("late", False, "send"), ("late", 2, "send"), ("late", -1, "send"),
            ("late", "0", "send"), ("late", 0.0, "send"), ("late", (0,), "send"), ("late", None, "send"),
            ("late", "send", 0),
            ("late", 0, ("send",)), ("late", 0, ["send"]), ("late", 10 ** 30, "send"),
        )
        for event in events:
            self.refused(1, program_of(SEND, MOVE, MOVE), 2, ("lost", ()), event, world=LATE)
            self.refused(1, program_of(SEND, SEND), 2, ("lost", ()), event, world=LATE)

    def test_a_waiting_break_where_an_event_is_needed(self):
        for statement in (SEND, KEYED, LOOK, PART):
            self.refused(0, program_of(MOVE, statement), 1, ("break", 2))
            self.refused(0, program_of(MOVE, statement, MOVE), 1, ("break", 3))
            self.refused(1, program_of(PART, statement, MOVE), 2, ("part", (1,)), ("break", 2))

    def test_a_break_of_the_past(self):
        program = program_of(MOVE, SEND, MOVE, MOVE)
        for steps in (-1, 0, 1):
            self.refused(1, program, 1, ("answer", ()), ("break", steps))
        self.refused(1, program_of(MOVE, MOVE, MOVE), 1, ("break", 2), ("break", 1))
        self.refused(0, program_of(MOVE), 1, ("break", -1))

    def test_a_break_of_another_form(self):
        for event in (
            ("break",), ("break", None), ("break", "0"), ("break", False), ("break", True), ("break", 0.0),
            ("break", (0,)), ("break", 0, 0), ("break", 1, None), ("break", [0]),
        ):
            self.refused(0, program_of(MOVE, MOVE), 1, event)
            self.refused(0, program_of(SEND), 1, event)

    def test_the_first_wrong_event_counts(self):
        program = program_of(PART, SEND, LOOK)
        self.refused(0, program, 2, None, ("late", 0, "send"), ("break", -1))
        self.refused(1, program, 2, ("part", ()), None, ("break", -1))
        self.refused(2, program, 2, ("part", ()), ("answer", ()), ("break", 0), None, world=World(breaks=None))

    def test_wrong_events_that_are_not_taken(self):
        for event in NO_EVENTS:
            self.assertEqual(self.played(program_of(MOVE, MOVE), 1, event).ending, "done")
            self.assertEqual(self.played(program_of(MOVE, SEND), 1, event, limit=1).ending, "long")
            self.assertEqual(self.played(program_of(("while", "a", ())), 1, event, limit=5).ending, "long")

    def test_an_error_changes_nothing(self):
        program, world = program_of(SEND, SEND), World(lost=1, late=True)
        before = run(program, world, 2, (("lost", ()), ("late", 1, "send")))
        with self.assertRaises(ValueError):
            run(program, world, 2, (("lost", ()), ("late", 1, "send"), ("lost", ())))
        self.assertEqual(run(program, world, 2, (("lost", ()), ("late", 1, "send"))), before)
        self.assertEqual([program, world], [program_of(SEND, SEND), World(lost=1, late=True)])
        self.assertEqual(ANY, World(lost=None, breaks=None))


if __name__ == "__main__":
    unittest.main()
