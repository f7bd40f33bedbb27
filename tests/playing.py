"""What several tests of runs need."""

import unittest

from answerparts.errors import InvalidEvent
from answerparts.programs import Program
from answerparts.runs import run
from answerparts.worlds import World

LISTS = ("a", "b", "c")
ANY = World(lost=None, breaks=None, fails=None)
LATE = World(lost=None, breaks=None, fails=None, late=True)
WHOLE = World("whole", lost=None, breaks=None, fails=None)
WHOLE_LATE = World("whole", lost=None, breaks=None, fails=None, late=True)


def program_of(*block, kept=(), lists=LISTS):
    return Program(lists, block, kept)


class RunCase(unittest.TestCase):
    def played(self, program, items, *history, world=ANY, limit=200):
        outcome = run(program, world, items, history, limit=limit)
        self.assertEqual(outcome, run(program, world, items, history, limit=limit))
        return outcome

    def done(self, program, items, *history, world=ANY):
        """A run that ends, and takes all events."""
        outcome = self.played(program, items, *history, world=world)
        self.assertEqual((outcome.ending, outcome.taken), ("done", len(history)))
        return outcome

    def refused(self, index, program, items, *history, world=ANY, limit=200):
        """A run whose first wrong event is that with the index, whatever stands behind it."""
        for tail in ((), (("answer", ()),), (None, None)):
            with self.subTest(index=index, block=program.block, history=history + tail):
                with self.assertRaises(InvalidEvent) as caught:
                    run(program, world, items, history + tail, limit=limit)
                self.assertEqual(caught.exception.index, index)
                self.assertIs(type(caught.exception.index), int)
