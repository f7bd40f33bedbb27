"""Rows: what they have, and what is none.

A row is (path, rounds, left, others, watched), as papers have it: a place, what can still happen, with None for any
number, the shadows of the other items, and the watched thing. A shadow is (list, state, pending).
"""

from answerparts.checks import is_number
from answerparts.programs import TOLD_WORDS, found_at

# What the shadows of each state can be pending of, ascending.
PENDING_IN = (
    ((), ("keyed",), ("keyed", "send"), ("send",)),
    ((), ("keyed",)),
    ((),),
)
KNOWN = 2
MOST = 2


def every_shadow(program):
    """Return all shadows that items of a program can have, ascending, where None is less than any list."""
    names = [None] + sorted(program.lists)
    return [(name, state, pending) for name in names for state in range(KNOWN + 1) for pending in PENDING_IN[state]]


def shadow_of(thing):
    """Return the shadow of a thing."""
    name, count, is_known, sends, is_keyed, _ = thing
    if is_known:
        return (name, KNOWN, ())
    words = ("keyed",) if is_keyed else ()
    # What was done already gets no greater state by a "send".
    if sends > 0 and count == 0:
        words = words + ("send",)
    return (name, min(count, 1), words)


def thing_like(shadow):
    """Return a thing that has a shadow."""
    name, state, pending = shadow
    return (name, min(state, 1), state == KNOWN, int("send" in pending), "keyed" in pending, None)


def is_tuple_of(value, many):
    """Tell whether a value is a tuple with so many items."""
    return type(value) is tuple and len(value) == many


def is_list_of(program, value):
    """Tell whether a value is a list of a program."""
    # What is no string is not compared: its own == could say anything.
    return type(value) is str and value in program.lists


def numbers_around(program, path):
    """Return the numbers of the "times" statements around the statement at a path, the outermost first."""
    around = [program[path[:length]] for length in range(1, len(path), 2)]
    return [statement[1] for statement in around if statement[0] == "times"]


def is_place(program, path, rounds):
    """Tell whether values are the path and the rounds of a place of a program."""
    if type(path) is not tuple or type(rounds) is not tuple:
        return False
    if len(path) == 0:
        return len(rounds) == 0
    if found_at(program.block, path) is None:
        return False
    numbers = numbers_around(program, path)
    if len(rounds) != len(numbers):
        return False
    return all([is_number(many, most) and many > 0 for many, most in zip(rounds, numbers)])


def is_left(bound, value):
    """Tell whether so much can be left of what a world bounds; None is any number."""
    return value is None if bound is None else is_number(value, bound)


def is_shadow(program, value):
    """Tell whether a value is a shadow of a program."""
    if not is_tuple_of(value, 3):
        return False
    name, state, pending = value
    if name is not None and not is_list_of(program, name):
        return False
    if not is_number(state, KNOWN) or type(pending) is not tuple:
        return False
    return all([type(word) is str for word in pending]) and pending in PENDING_IN[state]


def shadow_order(shadow):
    """Return what tells the order of shadows."""
    name, state, pending = shadow
    return ("" if name is None else name, state, pending)


def are_others(program, value):
    """Tell whether a value is the shadows that there are, ascending."""
    if type(value) is not tuple or not all([is_shadow(program, shadow) for shadow in value]):
        return False
    orders = [shadow_order(shadow) for shadow in value]
    return all([orders[at] < orders[at + 1] for at in range(len(orders) - 1)])


def is_watched(program, value):
    """Tell whether a value is what a watched item of a program can be."""
    if not is_tuple_of(value, 6):
        return False
    name, count, is_known, sends, is_keyed, word = value
    if not is_number(count, MOST) or not is_number(sends, MOST):
        return False
    if type(is_known) is not bool or type(is_keyed) is not bool:
        return False
    if is_known and (count == 0 or is_keyed):
        return False
    if name is None:
        return type(word) is str and word in TOLD_WORDS
    return is_list_of(program, name) and word is None


def is_row(program, world, value):
    """Tell whether any value is a row of a program in a world."""
    if not is_tuple_of(value, 5):
        return False
    path, rounds, left, others, watched = value
    if not is_place(program, path, rounds) or not is_tuple_of(left, 3):
        return False
    bounds = (world.lost, world.breaks, world.fails)
    if not all([is_left(bound, many) for bound, many in zip(bounds, left)]):
        return False
    return are_others(program, others) and is_watched(program, watched)
