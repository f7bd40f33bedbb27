"""The machine that executes a program with items, a step and an event at a time."""

from answerparts.events import items_of, late_of, steps_of, word_of
from answerparts.flow import END, EVENT_WORDS, first_place, place_after


def can_have_more(bound, many):
    """Tell whether what the world bounds can happen once more; None is any number."""
    return bound is None or many < bound


class Machine:
    """A program with its items between two steps."""

    def __init__(self, program, world, items):
        self._program = program
        self._world = world
        self.place = first_place(program)
        self.steps = []
        self.where = [program.lists[0]] * items
        self.done = [0] * items
        self.words = [None] * items
        self._known = [False] * items
        self._late_sends = [0] * items
        self._late_keyed = [False] * items
        self._answers_lost = 0
        self._times_broken = 0
        self._asks_failed = 0

    def has_ended(self):
        """Tell whether there is no next statement."""
        return self.place == END

    def next_statement(self):
        """Return the next statement."""
        return self._program[self.place[0]]

    def listed(self, name):
        """Return the items of a list, ascending."""
        return [item for item, at in enumerate(self.where) if at == name]

    def needs_event(self):
        """Tell whether the next statement needs an event."""
        statement = self.next_statement()
        return statement[0] in EVENT_WORDS and statement[1] in self.where

    def go_on(self):
        """Execute the next statement, which needs no event."""
        statement = self.next_statement()
        word = statement[0]
        if word == "move":
            self._put(self.listed(statement[1]), statement[2])
        elif word == "tell":
            for item in self.listed(statement[1]):
                self.where[item] = None
                self.words[item] = statement[2]
        self._step(word in ("if", "while") and statement[1] in self.where, False)

    def take(self, event):
        """Execute the next statement with an event; return False, and change nothing, if it cannot happen."""
        statement = self.next_statement()
        word = word_of(event)
        if word not in (("part",) if statement[0] == "part" else ("answer", "lost")):
            return False
        items = items_of(event)
        if items is None or (word == "lost" and not self._can_lose()):
            return False
        if statement[0] == "part":
            return self._part(statement, items)
        if statement[0] == "look":
            return self._look(statement, word, items)
        return self._ask(statement, word, items)

    def waits(self, event):
        """Tell whether an event is a "break" that waits for more steps."""
        steps = steps_of(event)
        return steps is not None and steps > len(self.steps)

    def break_off(self, event):
        """Begin anew; return False, and change nothing, if this "break" cannot happen."""
        can_break = can_have_more(self._world.breaks, self._times_broken)
        if steps_of(event) != len(self.steps) or not can_break:
            return False
        self._times_broken += 1
        first, kept = self._program.lists[0], self._program.kept
        self.where = [at if at is None or at in kept else first for at in self.where]
        self.place = first_place(self._program)
        return True

    def do_late(self, event):
        """Do an item late; return False, and change nothing, if this "late" cannot happen."""
        told = late_of(event, len(self.where))
        if told is None:
            return False
        item, word = told
        if word == "keyed":
            if not self._late_keyed[item]:
                return False
            self._do(item, word)
            return True
        if self._late_sends[item] == 0:
            return False
        self._late_sends[item] -= 1
        self._do(item, word)
        return True

    def _step(self, has_items, is_lost):
        self.steps.append(self.place[0])
        self.place = place_after(self._program, self.place, has_items, is_lost)

    def _put(self, items, name):
        for item in items:
            self.where[item] = name

    def _do(self, item, word):
        self.done[item] += 1
        if word == "keyed":
            self._known[item] = True
            self._late_keyed[item] = False

    def _can_lose(self):
        return can_have_more(self._world.lost, self._answers_lost)

    def _lose(self):
        self._answers_lost += 1
        self._step(True, True)

    def _part(self, statement, items):
        able = self.listed(statement[1])
        listed = set(able)
        if not all([item in listed for item in items]):
            return False
        self._put(items, statement[2])
        self._step(True, False)
        return True

    def _look(self, statement, word, items):
        if items != ():
            return False
        if word == "lost":
            self._lose()
            return True
        for item in self.listed(statement[1]):
            self.where[item] = statement[2] if self.done[item] > 0 else statement[3]
        self._step(True, False)
        return True

    def _ask(self, statement, word, items):
        listed = self.listed(statement[1])
        able = listed
        if statement[0] == "keyed":
            able = [item for item in listed if not self._known[item]]
        done = set(items)
        left = [item for item in able if item not in done]
        # Ascending items are all of the able ones, and of no others, if none but these is missing.
        if len(items) + len(left) != len(able):
            return False
        if self._world.mode == "whole" and len(items) > 0 and len(left) > 0:
            return False
        if word == "answer" and len(left) > 0 and not can_have_more(self._world.fails, self._asks_failed):
            return False
        for item in items:
            self._do(item, statement[0])
        if word == "lost":
            self._owe(statement[0], left)
            self._lose()
            return True
        self._asks_failed += 1 if len(left) > 0 else 0
        self._put(listed, statement[2])
        self._put(left, statement[3])
        self._step(True, False)
        return True

    def _owe(self, word, items):
        if not self._world.late:
            return
        for item in items:
            if word == "keyed":
                self._late_keyed[item] = True
            else:
                self._late_sends[item] += 1
