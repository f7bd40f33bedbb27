"""Tests of answerparts/notation.py: point 19, the texts of histories."""

import unittest

import second
from draws import Draws, drawn_program, drawn_world
from answerparts.errors import InvalidText
from answerparts.notation import format_history, parse_history
from answerparts.programs import Program
from answerparts.runs import run
from answerparts.worlds import World

TEXTS = [
    ((), ""),
    ((("answer", (0, 2)),), "answer 0 2"),
    ((("answer", ()),), "answer"),
    ((("answer", (0,)),), "answer 0"),
    ((("lost", ()),), "lost"),
    ((("lost", (1, 2, 3, 10, 999999999)),), "lost 1 2 3 10 999999999"),
    ((("part", (1,)),), "part 1"),
    ((("part", ()),), "part"),
    ((("part", (0, 1, 2)),), "part 0 1 2"),
    ((("break", 3),), "break 3"),
    ((("break", 0),), "break 0"),
    ((("break", 1000),), "break 1000"),
    ((("late", 1, "send"),), "late 1 send"),
    ((("late", 0, "keyed"),), "late 0 keyed"),
    (
        (("answer", (0, 2)), ("lost", ()), ("part", (1,)), ("break", 3), ("late", 1, "send")),
        "answer 0 2; lost; part 1; break 3; late 1 send",
    ),
    ((("lost", ()), ("lost", ()), ("lost", (0,))), "lost; lost; lost 0"),
    ((("answer", ()), ("answer", ())), "answer; answer"),
]

WRONG_EVENTS = (
    "", " ", "Answer 0", "answers", "done 0", "0", "answer,0", "answer 0,2", "answer 0, 2", "answer  0", "answer 0  2",
    "answer 0 ", " answer 0", "answer 2 0", "answer 0 0", "answer 1 3 2", "answer 1 2 2", "answer -1", "answer +1",
    "answer 00", "answer 01", "answer 0 02", "answer 1234567890", "answer a", "answer 1.0", "answer 1_0", "answer (0,)",
    "answer \u0661", "answer \u00b2", "answer 0\n", "answer\t0", "answer 0;", ";", "lost 1 0", "lost 3 3",
    "lost x", "lost ", "lost 007", "Lost", "part 2 1", "part 1 1", "part a", "part ", "part 0 send", "break",
    "break ", "break 1 2", "break 01", "break 1234567890", "break -1", "break x", "break 1 ", "late", "late ",
    "late 1", "late send", "late 1 send keyed", "late 1 look", "late 1 Send", "late send 1", "late 01 send",
    "late 1 2", "late 1 2 send", "late  1 send", "late 1  send", "late 1 send ", "late x send", "late -1 send",
    "late 1234567890 send", "late 1 ", "end", "send 0", "keyed", "look", "none", "answer;answer", "lost ;lost",
    "lost;lost",
)


class Texts(unittest.TestCase):
    def test_the_texts_of_histories(self):
        for history, text in TEXTS:
            with self.subTest(text=text):
                self.assertEqual(format_history(history), text)

    def test_reading_them_back(self):
        for history, text in TEXTS:
            with self.subTest(text=text):
                found = parse_history(text)
                self.assertEqual(found, history)
                self.assertEqual(repr(found), repr(history))

    def test_drawn_histories(self):
        words = set()
        for seed in range(910000, 910300):
            draws = Draws(seed)
            program, world, items = drawn_program(draws), drawn_world(draws), 1 + draws.below(3)
            history = second.drawn_history(draws, program, world, items)
            words.update(event[0] for event in history)
            found = parse_history(format_history(history))
            self.assertEqual(found, history)
            self.assertEqual(run(program, world, items, found), run(program, world, items, history))
        self.assertEqual(words, {"answer", "lost", "part", "break", "late"})

    def test_a_history_that_was_read_is_taken_by_a_run(self):
        program = Program(("a", "b"), (("send", "a", "b", "a", ()), ("tell", "b", "done")))
        history = parse_history("lost 1; late 0 send; break 1; answer 0")
        outcome = run(program, World(lost=1, breaks=1, late=True), 2, history)
        self.assertEqual([outcome.ending, outcome.counts, outcome.told], ["done", (2, 1), ("done", None)])


class Wrong(unittest.TestCase):
    def wrong(self, number, text):
        with self.subTest(text=text), self.assertRaises(InvalidText) as caught:
            parse_history(text)
        self.assertEqual(caught.exception.line, number, text)
        self.assertIs(type(caught.exception.line), int)

    def test_wrong_events_at_each_place(self):
        for event in WRONG_EVENTS:
            if event != "":
                self.wrong(1, event)
            self.wrong(1, event + "; lost")
            self.wrong(2, "answer 0 1; " + event)
            self.wrong(2, "part; " + event + "; break 1")
            self.wrong(3, "lost; late 0 send; " + event)
            self.wrong(5, "answer; break 2; part 0; lost 7; " + event + "; answer")

    def test_the_first_wrong_event_counts(self):
        self.wrong(2, "lost; answer 1 0; nothing")
        self.wrong(1, "answer 01; answer 1 1")
        self.wrong(3, "lost; lost; ; lost; ")

    def test_other_separators(self):
        for between in (";", " ;", ",", ", ", " ", "\n", ";\n", ";\t", "|", ";\u00a0"):
            self.wrong(1, "lost" + between + "lost")
            self.wrong(2, "lost; part" + between + "lost")
        # The blank behind the separator is that of the next event.
        self.wrong(2, "lost;  lost")
        self.wrong(1, "lost ; lost")
        self.wrong(2, "lost; ")
        self.wrong(1, "; lost")
        self.wrong(1, "; ")
        self.wrong(1, "lost;; lost")
        self.wrong(2, "lost; lost;")

    def test_the_same_texts_again(self):
        for _ in range(2):
            for history, text in TEXTS:
                self.assertEqual(parse_history(text), history)
                self.assertEqual(format_history(history), text)


if __name__ == "__main__":
    unittest.main()
