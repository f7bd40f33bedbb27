"""A second machine, written from points 5 to 9 of the document alone, that shares nothing with the package's.

It keeps the statements that are still to be executed as a list of paths, and each lost ask as a set of its own.
"""

import itertools

BLOCKS = {"send": (4,), "keyed": (4,), "look": (4,), "if": (2, 3), "while": (2,), "times": (2,)}


class Wrong(Exception):
    """The event with this index cannot happen."""

    def __init__(self, index):
        super().__init__(index)
        self.index = index


def is_integer(value):
    return isinstance(value, int) and not isinstance(value, bool)


def begins_with(event, word):
    return isinstance(event, tuple) and len(event) > 0 and isinstance(event[0], str) and event[0] == word


class Second:
    def __init__(self, program, world, items):
        self.program, self.world = program, world
        self.items = range(items)
        self.where = {item: program.lists[0] for item in self.items}
        self.counts = {item: 0 for item in self.items}
        self.told = {item: None for item in self.items}
        self.known = set()
        self.lost_asks = []
        self.used = {"lost": 0, "breaks": 0, "fails": 0}
        self.trace = []
        self.begin()

    def begin(self):
        self.todo = [(index,) for index in range(len(self.program.block))]

    def statement(self):
        return self.program[self.todo[0]]

    def in_list(self, name):
        return [item for item in self.items if self.where[item] == name]

    def may(self, what):
        bound = getattr(self.world, what)
        return bound is None or self.used[what] < bound

    def inner(self, path, number):
        statement = self.program[path]
        block = statement[BLOCKS[statement[0]][number]]
        return [path + (number, index) for index in range(len(block))]

    def do(self, item, word):
        self.counts[item] += 1
        if word == "keyed":
            self.known.add(item)
            for asked, pending in self.lost_asks:
                if asked == "keyed":
                    pending.discard(item)

    def pending_of(self, item, word):
        return [pending for asked, pending in self.lost_asks if asked == word and item in pending]

    def needs_event(self):
        statement = self.statement()
        return statement[0] in ("send", "keyed", "look", "part") and bool(self.in_list(statement[1]))

    def possible(self):
        """All events that the next statement can take."""
        statement = self.statement()
        word, here = statement[0], self.in_list(statement[1])
        if word == "look":
            return [("answer", ())] + ([("lost", ())] if self.may("lost") else [])
        if word == "part":
            return [("part", some) for some in subsets(here)]
        new = [item for item in here if not (word == "keyed" and item in self.known)]
        chosen = [(), tuple(new)] if self.world.mode == "whole" else list(subsets(new))
        found = []
        for some in chosen:
            if len(some) == len(new) or self.may("fails"):
                found.append(("answer", some))
            if self.may("lost"):
                found.append(("lost", some))
        return found

    def possible_now(self):
        """All events that can happen at once, whatever the next statement is."""
        late = itertools.product(("late",), self.items, ("send", "keyed"))
        found = [event for event in late if self.pending_of(event[1], event[2])]
        if self.todo and self.may("breaks"):
            found.append(("break", len(self.trace)))
        return found

    def happen(self, event):
        if event[0] == "late":
            self.pending_of(event[1], event[2])[0].discard(event[1])
            self.do(event[1], event[2])
            return
        self.used["breaks"] += 1
        for item in self.items:
            if self.where[item] is not None and self.where[item] not in self.program.kept:
                self.where[item] = self.program.lists[0]
        self.begin()

    def step(self, event=None):
        path, statement = self.todo.pop(0), None
        statement = self.program[path]
        self.trace.append(path)
        word = statement[0]
        here = self.in_list(statement[1]) if word not in ("times", "end") else []
        if word == "end":
            self.todo = []
        elif word == "times":
            self.todo = self.inner(path, 0) * statement[1] + self.todo
        elif word == "if":
            self.todo = self.inner(path, 0 if here else 1) + self.todo
        elif word == "while":
            self.todo = (self.inner(path, 0) + [path] if here else []) + self.todo
        elif word == "move":
            self.where.update({item: statement[2] for item in here})
        elif word == "tell":
            self.told.update({item: statement[2] for item in here})
            self.where.update({item: None for item in here})
        elif word == "part" and here:
            self.where.update({item: statement[2] for item in event[1]})
        elif here:
            self.answer(path, statement, here, event)

    def answer(self, path, statement, here, event):
        word = statement[0]
        before = set(self.known)
        for item in event[1]:
            self.do(item, word)
        if event[0] == "lost":
            self.used["lost"] += 1
            self.todo = self.inner(path, 0) + self.todo
            if word != "look" and self.world.late:
                left = {item for item in here if item not in event[1]}
                self.lost_asks.append((word, left - self.known if word == "keyed" else left))
            return
        if word == "look":
            right = {item for item in here if self.counts[item] > 0}
        else:
            right = set(event[1]) | (before & set(here) if word == "keyed" else set())
            self.used["fails"] += 1 if right != set(here) else 0
        for item in here:
            self.where[item] = statement[2] if item in right else statement[3]


def subsets(items):
    return itertools.chain.from_iterable(itertools.combinations(items, many) for many in range(len(items) + 1))


def same(event, other):
    """Equal, and of the same kinds throughout: True is not 1."""
    if isinstance(event, tuple) and isinstance(other, tuple):
        return len(event) == len(other) and all(same(one, two) for one, two in zip(event, other))
    return type(event) is type(other) and event == other


def is_among(event, events):
    return any(same(event, other) for other in events)


def play(program, world, items, history, limit=200):
    """Return (ending, trace, taken, lists, counts, told); raise Wrong where InvalidEvent is due."""
    machine = Second(program, world, items)
    at = 0

    def ended(ending):
        rows = [tuple(table[item] for item in machine.items) for table in (machine.where, machine.counts, machine.told)]
        return (ending, tuple(machine.trace), at, *rows)

    while True:
        while at < len(history):
            event = history[at]
            is_break = begins_with(event, "break") and bool(machine.todo)
            if is_break and len(event) == 2 and is_integer(event[1]) and event[1] > len(machine.trace):
                break
            if not is_break and not begins_with(event, "late"):
                break
            if not is_among(event, machine.possible_now()):
                raise Wrong(at)
            machine.happen(event)
            at += 1
        if not machine.todo:
            return ended("done")
        if len(machine.trace) == limit:
            return ended("long")
        if not machine.needs_event():
            machine.step()
        elif at == len(history):
            return ended("waiting")
        elif is_among(history[at], machine.possible()):
            machine.step(history[at])
            at += 1
        else:
            raise Wrong(at)


def drawn_history(draws, program, world, items, most=12):
    """A history of what can happen, in the order in which it happens."""
    machine = Second(program, world, items)
    history = []
    for _ in range(60):
        now = machine.possible_now()
        if now and draws.below(3) == 0 and len(history) < most:
            history.append(draws.one_of(now))
            machine.happen(history[-1])
        elif not machine.todo or len(history) == most:
            break
        elif machine.needs_event():
            history.append(draws.one_of(machine.possible()))
            machine.step(history[-1])
        else:
            machine.step()
    return tuple(history)
