"""The search for the results that are possible with any number of items, and for the fewest steps to them.

A row (node, able, needed, thing, left) stands for runs whose statements took the same turns. The thing is the watched
item. What can become of the others depends on the turns, not on each other: there can be any number of items with the
shadows that are able behind these turns. With those that are needed there are some: a list had items by them alone.
"""

from answerparts.bits import bits_of, with_bits
from answerparts.moves import NONE, behind_break, has_all
from answerparts.things import split_thing

EVERY_RESULT = (
    (0, None),
    (0, "done"),
    (0, "failed"),
    (1, None),
    (1, "done"),
    (1, "failed"),
    (2, None),
    (2, "done"),
    (2, "failed"),
)


class Search:
    """A search through the rows of a space, which goes on by the rows of one step more at a time."""

    def __init__(self, space):
        self._space = space
        self._seen = {}
        self._abilities = {}
        self._needs = {}
        self._stand_ins = {}
        self._able_broken = {}
        self._found = {}
        self._steps = 0
        self._layer = []
        able = self._with_weaker([space.first_shadow])
        self._add(self._layer, (space.begin, able, 0, space.first_thing, space.first_left))

    def steps_to(self, result):
        """Return the least number of steps of a run with a result, None if it is not possible."""
        while self._layer and result not in self._found:
            self._go_on()
        return self._found.get(result)

    def other_than(self, wanted):
        """Return a possible result that is not among the wanted ones, None if there is none."""
        while True:
            for result in list(self._found):
                if result not in wanted:
                    return result
            if not self._layer:
                return None
            self._go_on()

    def results(self):
        """Return all possible results, ascending."""
        while self._layer and len(self._found) < len(EVERY_RESULT):
            self._go_on()
        return [result for result in EVERY_RESULT if result in self._found]

    def _go_on(self):
        layer = self._layer
        for row in list(layer):
            self._break_off(row, layer)
        after = []
        for row in layer:
            if row[0] == self._space.end:
                for result in self._space.results_of(row[3]):
                    self._found.setdefault(result, self._steps)
            for move in self._space.moves(row[0]):
                self._follow(row, move, after)
        self._layer = after
        self._steps += 1

    def _break_off(self, row, layer):
        node, able, needed, thing, left = row
        rest = behind_break(left)
        if node == self._space.end or rest is None:
            return
        space = self._space
        if able not in self._able_broken:
            shadows = [space.broken_shadow(shadow) for shadow in bits_of(able)]
            self._able_broken[able] = self._with_weaker(shadows)
        needed = with_bits([space.broken_shadow(shadow) for shadow in bits_of(needed)])
        self._add(layer, (space.begin, self._able_broken[able], needed, space.broken_thing(thing), rest))

    def _follow(self, row, move, after):
        rest = move.rest(row[4])
        if rest is None:
            return
        able, chosen = self._tested(row, move)
        able = self._able_behind(move, able)
        for before in chosen:
            for needed in self._needed_behind(move, before):
                for fate in self._space.fates(move, row[3]):
                    self._add(after, (move.target, able, needed, fate[0], rest))

    def _tested(self, row, move):
        """Return what is able where the test of a move holds, and what can be needed for it, one of a list."""
        _, able, needed, thing, _ = row
        if move.test is None:
            return able, [needed]
        inside = self._space.shadows.inside(move.name)
        has_items = self._space.thing_of(thing)[0] == move.name or needed & inside != 0
        if move.test == NONE:
            return able & ~inside, ([] if has_items else [needed])
        if has_items:
            return able, [needed]
        return able, [needed | 1 << shadow for shadow in self._strongest(able & inside)]

    def _strongest(self, able):
        """Return those of the able shadows for which no other one can stand."""
        shadows = self._space.shadows
        return [shadow for shadow in bits_of(able) if shadows.stronger(shadow) & able == 1 << shadow]

    def _with_weaker(self, shadows):
        """Return shadows, as bits, with those for which they can stand."""
        bits = 0
        for shadow in shadows:
            bits |= self._space.shadows.weaker(shadow)
        return bits

    def _able_behind(self, move, able):
        key = (move.number, able)
        if key not in self._abilities:
            shares = [share for shadow in bits_of(able) for share in self._space.shares(move, shadow)]
            self._abilities[key] = self._with_weaker([share[0] for share in shares if share[0] is not None])
        return self._abilities[key]

    def _needed_behind(self, move, needed):
        """Return what can be needed behind a move; an item that was told is needed no more."""
        key = (move.number, needed)
        if key not in self._needs:
            found = {0: True}
            for shadow in bits_of(needed):
                after = [share[0] for share in self._space.shares(move, shadow)]
                bits = [0 if share is None else 1 << share for share in after]
                found = {both | bit: True for both in found for bit in bits}
            self._needs[key] = list(found)
        return self._needs[key]

    def _standing_for(self, needed):
        """Return, as bits, the shadows that can stand for one of those that are needed."""
        if needed not in self._stand_ins:
            bits = 0
            for shadow in bits_of(needed):
                bits |= self._space.shadows.stronger(shadow)
            self._stand_ins[needed] = bits
        return self._stand_ins[needed]

    def _add(self, layer, row):
        """Add a row to a layer, but not if an earlier one can do what it can."""
        node, able, needed, thing, left = row
        core, pending = split_thing(self._space.thing_of(thing))
        numbers = left + pending
        standing = self._standing_for(needed)
        seen = self._seen.setdefault((node, core), [])
        for more, fewer, others in seen:
            if more | able == more and fewer & standing == fewer and has_all(others, numbers):
                return
        seen.append((able, needed, numbers))
        layer.append(row)
