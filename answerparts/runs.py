"""Runs: what a program does with so many items, and with a history of what happens to them."""

from answerparts.checks import is_number
from answerparts.errors import InvalidEvent, InvalidLimit
from answerparts.events import word_of
from answerparts.machines import Machine

MOST_STEPS = 1000


class Outcome:
    """How a run ended, what it executed, and what became of its items."""

    def __init__(self, ending, taken, machine):
        self._ending = ending
        self._taken = taken
        self._trace = tuple(machine.steps)
        self._lists = tuple(machine.where)
        self._counts = tuple(machine.done)
        self._told = tuple(machine.words)

    @property
    def ending(self):
        """The word "done", "long" or "waiting"."""
        return self._ending

    @property
    def trace(self):
        """The paths of all steps."""
        return self._trace

    @property
    def taken(self):
        """The number of events taken."""
        return self._taken

    @property
    def lists(self):
        """For each item its list, None if it was told."""
        return self._lists

    @property
    def counts(self):
        """How often each item was done."""
        return self._counts

    @property
    def told(self):
        """The word told of each item, None if there is none."""
        return self._told

    def result(self, item):
        """Return the count of an item, 2 for more, and the word that was told of it."""
        return (min(self._counts[item], 2), self._told[item])

    def __len__(self):
        return len(self._trace)

    def __eq__(self, other):
        return (
            isinstance(other, Outcome)
            and self._ending == other._ending
            and self._taken == other._taken
            and self._trace == other._trace
            and self._lists == other._lists
            and self._counts == other._counts
            and self._told == other._told
        )


def happened(machine, history, at):
    """Let happen what does not wait for the next statement; return the index of the first event that does."""
    while at < len(history):
        event = history[at]
        word = word_of(event)
        if word == "late":
            can_happen = machine.do_late(event)
        elif word == "break" and not machine.has_ended() and not machine.waits(event):
            can_happen = machine.break_off(event)
        else:
            return at
        if not can_happen:
            raise InvalidEvent(at)
        at += 1
    return at


def run(program, world, items, history, *, limit=200):
    """Execute a program with so many items, and with a history, and return the outcome."""
    if not is_number(limit, MOST_STEPS):
        raise InvalidLimit("the limit is not an integer from 0 to 1000")
    machine = Machine(program, world, items)
    at = 0
    while True:
        at = happened(machine, history, at)
        if machine.has_ended():
            return Outcome("done", at, machine)
        if len(machine.steps) == limit:
            return Outcome("long", at, machine)
        if not machine.needs_event():
            machine.go_on()
        elif at == len(history):
            return Outcome("waiting", at, machine)
        elif machine.take(history[at]):
            at += 1
        else:
            raise InvalidEvent(at)
