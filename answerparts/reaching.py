"""What can become of an item, with any number of items and all histories that the world allows."""

from answerparts.histories import history_of
from answerparts.loops import Loops
from answerparts.searches import Search
from answerparts.spaces import Space
from answerparts.ways import Ways

RIGHT_RESULTS = ((0, "failed"), (1, "done"))


def results(program, world):
    """Return the possible results, ascending, where None is less than any word."""
    return Search(Space(program, world)).results()


def is_right(program, world):
    """Tell whether only (0, "failed") and (1, "done") are possible."""
    return Search(Space(program, world)).other_than(RIGHT_RESULTS) is None


def alike(one, other, world):
    """Tell whether the same results are possible with two programs."""
    return results(one, world) == results(other, world)


def shortest(space, result):
    """Return (steps, items, last stage) of a shortest way with the fewest items, None if a result is not possible."""
    steps = Search(space).steps_to(result)
    if steps is None:
        return None
    # Beside the watched item, no step needs more than one that no other step needs.
    for items in range(1, steps + 2):
        last = Ways(space, items).way_to(result, steps)
        if last is not None:
            return steps, items, last
    return None


def least(program, world, result):
    """Return the least numbers of steps and of items that lead to a result, None if it is not possible."""
    found = shortest(Space(program, world), result)
    return None if found is None else found[:2]


def way(program, world, result):
    """Return a history with which item 0 gets a result by the least steps and items, None if it is not possible."""
    space = Space(program, world)
    found = shortest(space, result)
    return None if found is None else history_of(space, found[2], result[0])


def goes_on(program, world, items):
    """Tell whether some run with so many items has steps without end."""
    return Loops(Space(program, world), items).has_one()
