"""The rules by which rows follow from rows.

Here a row is (node, left, others, thing): the number of its place, what is left as moves have it, the others as bits,
one for each shadow in the order of shadows, and the number of the watched thing.
"""

from answerparts.bits import bits_of, with_bits
from answerparts.moves import as_bounds, as_numbers, behind_break, behind_failure, behind_loss, left_in, turns_of
from answerparts.nodes import Nodes
from answerparts.pools import Pool
from answerparts.programs import LISTS_AT
from answerparts.rows import every_shadow, shadow_of, thing_like
from answerparts.things import done_late_by, is_failure, new_thing, outcomes, put_back


def choices_of(options):
    """Return what one or more of the options are together, where all of these are pairs (bits, whether one failed)."""
    found = [(0, False)]
    for bits, fails in options:
        found = found + [(others | bits, has_failed or fails) for others, has_failed in found]
    # The first one has none of the options.
    return list({choice: True for choice in found[1:]})


class Rules:
    """What follows from the rows of a program in a world."""

    def __init__(self, program, world):
        self._program = program
        self._world = world
        self._nodes = Nodes(program, {word: turns_of(word, world) for word in LISTS_AT})
        self._things = Pool()
        self._shadows = every_shadow(program)
        self._places = {shadow: at for at, shadow in enumerate(self._shadows)}
        self._inside = {name: self._bits_in(name) for name in program.lists}
        self._choices = {}
        self._spreads = {}
        self._fates = {}

    def first_rows(self):
        """Return the rows with which a run begins: without others, and with others like the watched item."""
        first = new_thing(self._program)
        left, thing = left_in(self._world), self._things.number_of(first)
        like_it = with_bits([self._places[shadow_of(first)]])
        return [(self._nodes.begin, left, others, thing) for others in (0, like_it)]

    def behind(self, row):
        """Return the rows that follow from a row, some of them more than once."""
        node, left, others, thing = row
        rows = [(node, left, others, after) for after in self._done_late(thing)]
        if node == self._nodes.end:
            return rows
        rest = behind_break(left)
        if rest is not None:
            rows.append((self._nodes.begin, rest, self._broken_others(others), self._broken_thing(thing)))
        for move in self._nodes.moves(node):
            rows.extend(self._behind_move(row, move))
        return rows

    def has_result(self, row, result):
        """Tell whether a run has ended with a row, and its watched item has a result."""
        watched = self._things.value_of(row[3])
        return row[0] == self._nodes.end and (watched[1], watched[5]) == result

    def numbered(self, row):
        """Return, in numbers, a row that is written as papers have it."""
        path, rounds, bounds, shadows, watched = row
        others = with_bits([self._places[shadow] for shadow in shadows])
        return (self._nodes.number_of((path, rounds)), as_numbers(bounds), others, self._things.number_of(watched))

    def written(self, row):
        """Return, as papers have it, a row that is in numbers."""
        node, left, others, thing = row
        shadows = tuple([self._shadows[at] for at in bits_of(others)])
        return self._nodes.place_of(node) + (as_bounds(left), shadows, self._things.value_of(thing))

    def order_of(self, row):
        """Return what tells the order of rows, where None is less than any word."""
        node, left, others, thing = row
        name, count, is_known, sends, is_keyed, told = self._things.value_of(thing)
        watched = ("" if name is None else name, count, is_known, sends, is_keyed, "" if told is None else told)
        return (self._nodes.place_of(node), left, bits_of(others), watched)

    def _done_late(self, number):
        """Return what one late doing can make of the watched thing."""
        thing = self._things.value_of(number)
        words = (["send"] if thing[3] > 0 else []) + (["keyed"] if thing[4] else [])
        return [self._things.number_of(done_late_by(thing, word)) for word in words]

    def _broken_thing(self, number):
        return self._things.number_of(put_back(self._things.value_of(number), self._program))

    def _broken_others(self, others):
        things = [put_back(thing_like(self._shadows[at]), self._program) for at in bits_of(others)]
        return with_bits([self._places[shadow_of(thing)] for thing in things])

    def _behind_move(self, row, move):
        _, left, others, number = row
        touched = 0 if move.name is None else others & self._inside[move.name]
        has_items = move.name is not None and (touched != 0 or self._things.value_of(number)[0] == move.name)
        rest = behind_loss(left) if move.turn[0] == "lost" else left
        if rest is None or not move.holds(has_items):
            return []
        behind_failing = behind_failure(left)
        rows = []
        for after, has_failed in self._spread(move, touched):
            for fate, fails in self._fates_of(move, number):
                behind = behind_failing if has_failed or fails else rest
                if behind is not None:
                    rows.append((move.target, behind, (others ^ touched) | after, fate))
        return rows

    def _bits_in(self, name):
        """Return the shadows in a list, as bits."""
        return with_bits([at for at, shadow in enumerate(self._shadows) if shadow[0] == name])

    def _spread(self, move, others):
        """Return what others give way to together: pairs (bits, whether one failed)."""
        key = (move.number, others)
        if key not in self._spreads:
            found = {(0, False): True}
            for at in bits_of(others):
                choices = self._choices_of(move, at)
                found = {
                    (bits | more, has_failed or fails): True for bits, has_failed in found for more, fails in choices
                }
            self._spreads[key] = list(found)
        return self._spreads[key]

    def _choices_of(self, move, at):
        key = (move.number, at)
        if key not in self._choices:
            rows = self._outcomes(move, thing_like(self._shadows[at]))
            options = [(1 << self._places[shadow_of(after)], fails) for after, fails, _ in rows]
            self._choices[key] = choices_of(options)
        return self._choices[key]

    def _fates_of(self, move, number):
        """Return what becomes of the watched thing, if it is not done late: pairs (thing, whether it failed)."""
        key = (move.number, number)
        if key not in self._fates:
            rows = self._outcomes(move, self._things.value_of(number))
            self._fates[key] = [(self._things.number_of(after), fails) for after, fails, late in rows if late is None]
        return self._fates[key]

    def _outcomes(self, move, thing):
        rows = outcomes(move.statement, move.turn, thing, self._world.late)
        return [(row[0], is_failure(move.statement, move.turn, thing, row), row[2]) for row in rows]
