"""Worlds: what can happen while a program runs."""

from answerparts.checks import is_number
from answerparts.errors import InvalidWorld, WorldError

MODES = ("each", "whole")
MOST_TIMES = 3


def is_mode(value):
    """Tell whether a value is a mode."""
    # What is no string is not compared: its own == could say anything.
    return type(value) is str and value in MODES


def is_bound(value):
    """Tell whether a value says how often something can happen; None is any number."""
    return value is None or is_number(value, MOST_TIMES)


def is_at_most(one, other):
    """Tell whether a bound is at most another one; None is the greatest."""
    return other is None or (one is not None and one <= other)


def greater_bound(one, other):
    """Return the greater one of two bounds."""
    return one if is_at_most(other, one) else other


class World:
    """The mode of the asks, how often what can go wrong, and what can be done late."""

    def __init__(self, mode="each", *, lost=0, breaks=0, fails=None, late=False):
        if not is_mode(mode) or type(late) is not bool:
            raise InvalidWorld("the mode or late is not right")
        if not (is_bound(lost) and is_bound(breaks) and is_bound(fails)):
            raise InvalidWorld("a number is not from 0 to 3 and not None")
        self._mode = mode
        self._lost = lost
        self._breaks = breaks
        self._fails = fails
        self._late = late

    @property
    def mode(self):
        """The mode, "each" or "whole"."""
        return self._mode

    @property
    def lost(self):
        """How many answers can be lost."""
        return self._lost

    @property
    def breaks(self):
        """How often the program can break off."""
        return self._breaks

    @property
    def fails(self):
        """In how many asks items can fail."""
        return self._fails

    @property
    def late(self):
        """Whether what was lost can be done late."""
        return self._late

    def __eq__(self, other):
        return (
            isinstance(other, World)
            and self._mode == other._mode
            and self._lost == other._lost
            and self._breaks == other._breaks
            and self._fails == other._fails
            and self._late == other._late
        )

    def __or__(self, other):
        if self._mode != other._mode:
            raise WorldError("the modes of the worlds differ")
        return World(
            self._mode,
            lost=greater_bound(self._lost, other._lost),
            breaks=greater_bound(self._breaks, other._breaks),
            fails=greater_bound(self._fails, other._fails),
            late=self._late or other._late,
        )

    def is_milder(self, other):
        """Tell whether all that can happen in this world can happen in the other one."""
        return (
            self._mode == other._mode
            and is_at_most(self._lost, other._lost)
            and is_at_most(self._breaks, other._breaks)
            and is_at_most(self._fails, other._fails)
            and (other._late or not self._late)
        )
