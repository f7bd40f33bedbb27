"""Crowds: items that are not watched, where it counts how many there are.

A crowd is a tuple of pairs (shadow, number of items), ascending. Items that were told are in it no more.
"""

from answerparts.bits import with_bits


def portions(many, ways):
    """Return how so many items can share so many ways, as tuples of how many go each way."""
    if ways == 1:
        return [(many,)]
    return [(first,) + rest for first in range(many + 1) for rest in portions(many - first, ways - 1)]


def crowd_of(numbers):
    """Return the crowd that has so many items of each shadow."""
    return tuple(sorted([(shadow, many) for shadow, many in numbers.items() if many > 0]))


def joined(crowd, shares, portion):
    """Return a crowd with the items of a portion, of which so many have each share."""
    numbers = dict(crowd)
    for share, many in zip(shares, portion):
        if share[0] is not None:
            numbers[share[0]] = numbers.get(share[0], 0) + many
    return crowd_of(numbers)


class Crowds:
    """What follows from the crowds in a space."""

    def __init__(self, space):
        self._space = space
        self._followers = {}

    def has_items(self, crowd, name):
        """Tell whether a crowd has items in a list."""
        return self._space.shadows.inside(name) & with_bits([shadow for shadow, _ in crowd]) != 0

    def behind(self, move, crowd):
        """Return pairs of a crowd behind a move and the portions that lead to it, one for each shadow ahead of it."""
        key = (move.number, crowd)
        if key not in self._followers:
            found = {(): ()}
            for shadow, many in crowd:
                found = self._spread(found, self._space.shares(move, shadow), many)
            self._followers[key] = list(found.items())
        return self._followers[key]

    def broken(self, crowd):
        """Return the crowd that a break makes of one."""
        numbers = {}
        for shadow, many in crowd:
            broken = self._space.broken_shadow(shadow)
            numbers[broken] = numbers.get(broken, 0) + many
        return crowd_of(numbers)

    def _spread(self, found, shares, many):
        longer = {}
        for crowd, taken in found.items():
            for portion in portions(many, len(shares)):
                longer.setdefault(joined(crowd, shares, portion), taken + (portion,))
        return longer
