"""The space of a program in a world: its nodes and moves, and what they make of items.

One item is watched, of which the whole thing counts. Of the others only their shadows count. Nodes, things and shadows
have numbers.
"""

from answerparts.flow import END, first_place, place_after
from answerparts.moves import NONE, Move, left_in, tests_of, turns_of
from answerparts.pools import Pool
from answerparts.shadows import Shadows
from answerparts.things import outcomes, put


def distinct(rows):
    """Return the first one of those rows that begin with the same value."""
    first = {}
    for row in rows:
        first.setdefault(row[0], row)
    return list(first.values())


class Space:
    """The nodes and moves of a program in a world, and what they make of items."""

    def __init__(self, program, world):
        self._program = program
        self._world = world
        self._nodes = Pool()
        self._things = Pool()
        self._moves_at = {}
        self._many_moves = 0
        self._shares = {}
        self._fates = {}
        self.shadows = Shadows(program, world)
        first = (program.lists[0], 0, False, 0, False, None)
        self.first_thing = self._thing_number(first)
        self.first_shadow = self.shadows.number_of(first)
        self.first_left = left_in(world)
        self.begin = self._nodes.number_of(first_place(program))
        self.end = self._nodes.number_of(END)

    def thing_of(self, number):
        """Return the watched thing that has a number."""
        return self._things.value_of(number)

    def moves(self, node):
        """Return the moves from a node."""
        if node == self.end:
            return []
        if node not in self._moves_at:
            self._moves_at[node] = self._new_moves(self._nodes.value_of(node))
        return self._moves_at[node]

    def shares(self, move, shadow):
        """Return what a move can make of a shadow: rows (shadow, named, late word), as outcomes has them."""
        key = (move.number, shadow)
        if key not in self._shares:
            rows = outcomes(move.statement, move.turn, self.shadows.thing_of(shadow), self._world.late)
            self._shares[key] = distinct([(self.shadows.number_of(row[0]),) + row[1:] for row in rows])
        return self._shares[key]

    def fates(self, move, thing):
        """Return what a move can make of the watched thing: rows (thing, named, late word), as outcomes has them."""
        key = (move.number, thing)
        if key not in self._fates:
            rows = outcomes(move.statement, move.turn, self.thing_of(thing), self._world.late)
            self._fates[key] = distinct([(self._thing_number(row[0]),) + row[1:] for row in rows])
        return self._fates[key]

    def broken_shadow(self, shadow):
        """Return the shadow that a break makes of one."""
        return self.shadows.number_of(self._put_back(self.shadows.thing_of(shadow)))

    def broken_thing(self, thing):
        """Return the watched thing that a break makes of one."""
        return self._thing_number(self._put_back(self.thing_of(thing)))

    def results_of(self, thing):
        """Return the results that a watched thing can have behind the end of a run, where it can still be done late."""
        _, count, _, sends, is_keyed, told = self.thing_of(thing)
        most = min(count + sends + int(is_keyed), 2)
        return [(many, told) for many in range(count, most + 1)]

    def _thing_number(self, thing):
        """Return the number of a watched thing, without what its result does not depend on."""
        name, count, is_known, sends, is_keyed, told = thing
        sends = min(sends, 2 - count)
        if name is None:
            is_known = False
            is_keyed = is_keyed and sends < 2 - count
        return self._things.number_of((name, count, is_known, sends, is_keyed, told))

    def _put_back(self, thing):
        if thing[0] is None or thing[0] in self._program.kept:
            return thing
        return put(thing, self._program.lists[0])

    def _new_moves(self, place):
        statement = self._program[place[0]]
        moves = []
        for turn in turns_of(statement[0], self._world):
            for test in tests_of(statement[0], turn):
                after = place_after(self._program, place, test != NONE, turn[0] == "lost")
                target = self._nodes.number_of(after)
                moves.append(Move(self._many_moves, place[0], statement, turn, test, target))
                self._many_moves += 1
        return moves
