"""The space of a program in a world: its nodes and moves, and what they make of items.

One item is watched, of which the whole thing counts. Of the others only their shadows count. Nodes, things and shadows
have numbers.
"""

from answerparts.moves import decisive_turns_of, left_in
from answerparts.nodes import Nodes
from answerparts.pools import Pool
from answerparts.programs import LISTS_AT
from answerparts.shadows import Shadows
from answerparts.things import new_thing, outcomes, put_back


def distinct(rows):
    """Return the first one of those rows that begin with the same value."""
    first = {}
    for row in rows:
        first.setdefault(row[0], row)
    return list(first.values())


class Space:
    """The nodes and moves of a program in a world, and what they make of items."""

    def __init__(self, program, world):
        self._program = program
        self._world = world
        self._nodes = Nodes(program, {word: decisive_turns_of(word, world) for word in LISTS_AT})
        self._things = Pool()
        self._shares = {}
        self._fates = {}
        self.shadows = Shadows(program, world)
        first = new_thing(program)
        self.first_thing = self._thing_number(first)
        self.first_shadow = self.shadows.number_of(first)
        self.first_left = left_in(world)
        self.begin = self._nodes.begin
        self.end = self._nodes.end

    def thing_of(self, number):
        """Return the watched thing that has a number."""
        return self._things.value_of(number)

    def moves(self, node):
        """Return the moves from a node."""
        return self._nodes.moves(node)

    def shares(self, move, shadow):
        """Return what a move can make of a shadow: rows (shadow, named, late word), as outcomes has them."""
        key = (move.number, shadow)
        if key not in self._shares:
            rows = outcomes(move.statement, move.turn, self.shadows.thing_of(shadow), self._world.late)
            self._shares[key] = distinct([(self.shadows.number_of(row[0]),) + row[1:] for row in rows])
        return self._shares[key]

    def fates(self, move, thing):
        """Return what a move can make of the watched thing: rows (thing, named, late word), as outcomes has them."""
        key = (move.number, thing)
        if key not in self._fates:
            rows = outcomes(move.statement, move.turn, self.thing_of(thing), self._world.late)
            self._fates[key] = distinct([(self._thing_number(row[0]),) + row[1:] for row in rows])
        return self._fates[key]

    def broken_shadow(self, shadow):
        """Return the shadow that a break makes of one."""
        return self.shadows.number_of(put_back(self.shadows.thing_of(shadow), self._program))

    def broken_thing(self, thing):
        """Return the watched thing that a break makes of one."""
        return self._thing_number(put_back(self.thing_of(thing), self._program))

    def results_of(self, thing):
        """Return the results that a watched thing can have behind the end of a run, where it can still be done late."""
        _, count, _, sends, is_keyed, told = self.thing_of(thing)
        most = min(count + sends + int(is_keyed), 2)
        return [(many, told) for many in range(count, most + 1)]

    def _thing_number(self, thing):
        """Return the number of a watched thing, without what its result does not depend on."""
        name, count, is_known, sends, is_keyed, told = thing
        sends = min(sends, 2 - count)
        if name is None:
            is_known = False
            is_keyed = is_keyed and sends < 2 - count
        return self._things.number_of((name, count, is_known, sends, is_keyed, told))
