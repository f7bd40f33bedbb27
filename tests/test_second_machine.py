"""run is held against a second machine, written from the document alone: points 5 to 9."""

import collections
import unittest

import second
from draws import Draws, drawn_program, drawn_world
from answerparts.errors import InvalidEvent
from answerparts.runs import run

ODD_EVENTS = (
    None, 0, True, "answer", "late", "break", (), ("answer",), ("lost",), ("part",), ("answer", (0,), 1),
    ("answer", [0]), ("answer", (True,)), ("answer", (0, 0)), ("answer", (1, 0)), ("answer", (-1,)), ("answer", (9,)),
    ("answer", None),
    ("answer", ()), ("answer", (0,)), ("answer", (1,)), ("answer", (0, 1)), ("lost", ()), ("lost", (0,)),
    ("lost", (0, 1)),
    ("part", ()), ("part", (0,)), ("part", (0, 1)), ("part", (2,)), ("Answer", ()), ("done", (0,)), ["answer", (0,)],
    ("late", 0, "send"), ("late", 1, "send"), ("late", 0, "keyed"), ("late", 1, "keyed"), ("late", 0, "look"),
    ("late", 0), ("late",), ("late", 9, "send"), ("late", -1, "send"), ("late", False, "send"),
    ("late", 0, "send", 0), ("late", "0", "send"),
    ("break",), ("break", 0), ("break", 1), ("break", 2), ("break", 3), ("break", 7), ("break", -1), ("break", True),
    ("break", None), ("break", "1"), ("break", 1, 1), ("break", 50, 1), ("break", (1,)), (0, "break"),
    (("late", 0, "send"),),
)


def of_run(program, world, items, history, limit):
    """What run says, in the form of the second machine."""
    try:
        outcome = run(program, world, items, history, limit=limit)
    except InvalidEvent as error:
        return ("wrong", error.index)
    return (outcome.ending, outcome.trace, outcome.taken, outcome.lists, outcome.counts, outcome.told)


def of_second(program, world, items, history, limit):
    try:
        return second.play(program, world, items, history, limit)
    except second.Wrong as error:
        return ("wrong", error.index)


class SecondMachine(unittest.TestCase):
    def setUp(self):
        self.endings = collections.Counter()

    def held(self, seed, program, world, items, history, limit=30):
        expected = of_second(program, world, items, history, limit)
        found = of_run(program, world, items, history, limit)
        if found != expected:
            about = (seed, program.lists, program.block, program.kept, vars(world), items, history, limit)
            self.fail(f"{about}: {found}, {expected}")
        self.endings[expected[0]] += 1
        return expected

    # Behind each drawing, the numbers of what was drawn show that the draws reach all that there is.
    def test_histories_of_what_can_happen(self):
        events = collections.Counter()
        words = collections.Counter()
        for seed in range(2500):
            draws = Draws(seed)
            program, world, items = drawn_program(draws), drawn_world(draws), 1 + draws.below(3)
            history = second.drawn_history(draws, program, world, items)
            found = self.held(seed, program, world, items, history, draws.one_of((8, 30)))
            events.update(event[0] for event in history)
            words.update(program[path][0] for path in set(found[1]))
            for many in range(len(history)):
                self.held(seed, program, world, items, history[:many])
            for limit in (0, 1, 2, len(found[1]), max(len(found[1]) - 1, 0)):
                self.held(seed, program, world, items, history, limit)
        self.assertGreater(min(self.endings[ending] for ending in ("done", "long", "waiting")), 1000)
        self.assertEqual(self.endings["wrong"], 0)
        self.assertGreater(min(events[word] for word in ("answer", "lost", "part", "break", "late")), 100)
        self.assertGreater(min(words[word] for word in second.BLOCKS), 100)
        self.assertGreater(min(words[word] for word in ("move", "part", "tell", "end")), 100)

    def test_histories_with_another_event_in_one_place(self):
        for seed in range(2500):
            draws = Draws(100000 + seed)
            program, world, items = drawn_program(draws), drawn_world(draws), 1 + draws.below(3)
            history = second.drawn_history(draws, program, world, items)
            for _ in range(6):
                at = draws.below(len(history) + 1)
                changed = history[:at] + (draws.one_of(ODD_EVENTS),) + history[at + draws.below(2):]
                self.held(seed, program, world, items, changed, draws.one_of((4, 30)))
        self.assertGreater(min(self.endings[ending] for ending in ("done", "long", "wrong")), 1000)

    def test_histories_with_breaks_that_wait(self):
        waited = 0
        for seed in range(1500):
            draws = Draws(200000 + seed)
            program, world, items = drawn_program(draws), drawn_world(draws), 1 + draws.below(3)
            history = second.drawn_history(draws, program, world, items)
            at = draws.below(len(history) + 1)
            changed = history[:at] + (("break", draws.below(9)),) + history[at:]
            waited += self.held(seed, program, world, items, changed)[0] != "wrong"
        self.assertGreater(waited, 200)


if __name__ == "__main__":
    unittest.main()
