"""Shadows: what counts of an item that is not watched.

A shadow is a thing without what nothing depends on. Shadows have numbers; several shadows are the bits of an integer.
"""

from answerparts.bits import with_bits
from answerparts.pools import Pool

# What can be of an item in a list: count, known, sends, keyed, as things have it.
KINDS = (
    (0, False, 0, False),
    (0, False, 0, True),
    (0, False, 1, False),
    (0, False, 1, True),
    (1, False, 0, False),
    (1, False, 0, True),
    (1, True, 0, False),
)


class Shadows:
    """The shadows that items can have in a program and a world."""

    def __init__(self, program, world):
        words = [program[path][0] for path in list(program.paths())]
        self._is_looking = "look" in words
        # Whether an item is known matters only where others can fail.
        self._is_knowing = "keyed" in words and world.fails != 0
        # What is not known can go where what is known goes, unless items fail together.
        self._is_free = world.mode == "each" or not self._is_knowing
        self._pool = Pool()
        self._inside = {}
        for name in program.lists:
            self._inside[name] = with_bits([self.number_of((name,) + kind + (None,)) for kind in KINDS])
        every = list(range(len(self._pool)))
        self._weaker = [with_bits([at for at in every if self._can_stand_for(one, at)]) for one in every]
        self._stronger = [with_bits([at for at in every if self._can_stand_for(at, one)]) for one in every]

    def thing_of(self, shadow):
        """Return the thing that a shadow is."""
        return self._pool.value_of(shadow)

    def number_of(self, thing):
        """Return the shadow of a thing, None if it was told."""
        name, count, is_known, sends, is_keyed, _ = thing
        if name is None:
            return None
        # Whether an item was done is of interest to a "look" alone.
        is_open = self._is_looking and count == 0
        sends = 1 if is_open and sends > 0 else 0
        if self._is_free:
            is_keyed = is_keyed and is_open and sends == 0
        count = min(count, 1) if self._is_looking else 0
        return self._pool.number_of((name, count, is_known and self._is_knowing, sends, is_keyed, None))

    def inside(self, name):
        """Return the shadows that are in a list, as bits."""
        return self._inside[name]

    def weaker(self, shadow):
        """Return, as bits, the shadows for which this one can stand: its items can go where theirs can go."""
        return self._weaker[shadow]

    def stronger(self, shadow):
        """Return, as bits, the shadows that can stand for this one."""
        return self._stronger[shadow]

    def _can_stand_for(self, shadow, other):
        name, count, is_known, sends, is_keyed, _ = self.thing_of(shadow)
        place, done, known, owed, keyed, _ = self.thing_of(other)
        if name != place:
            return False
        # It counts as done already, or will if it is done late.
        is_done = not self._is_looking or count > 0 or sends > 0
        if known:
            return is_known or is_keyed or (self._is_free and is_done)
        if is_known:
            return False
        if done > 0:
            return is_done and is_keyed >= keyed
        if count > 0 or sends < owed:
            return False
        return is_keyed >= keyed or (self._is_free and sends > 0)
