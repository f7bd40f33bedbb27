"""Moves: the ways in which a statement can be executed, and what they use up of what a world allows.

What is left of this is (lost, breaks, fails): how many answers can still be lost, how often the program can still break
off, and in how many asks items can still fail.
"""

from answerparts.programs import LISTS_AT

# Instead of None, so that numbers can be compared: no world has a greater one.
ANY = 4

# The tests: the list of the statement has items, or none.
SOME = "some"
NONE = "none"


def left_in(world):
    """Return what a world allows at first."""
    return tuple([ANY if bound is None else bound for bound in (world.lost, world.breaks, world.fails)])


def one_less(number):
    """Return what is left of a number when one is used up."""
    return number if number == ANY else number - 1


def behind_break(left):
    """Return what is left when the program has broken off, None if it cannot."""
    lost, breaks, fails = left
    return None if breaks == 0 else (lost, one_less(breaks), fails)


def has_all(numbers, others):
    """Tell whether no number is less than the other one in its place."""
    return all([number >= other for number, other in zip(numbers, others)])


def turns_of(word, world):
    """Return the turns that a statement of this word can take.

    A turn is the word of its event, None if it needs none, and what an ask can mean for an item: done or not.
    """
    if word == "part":
        return [("part", ())]
    if word == "look":
        return [("answer", ()), ("lost", ())]
    if word not in ("send", "keyed"):
        return [(None, ())]
    if world.mode == "whole":
        answered = [("answer", (True,)), ("answer", (False,))]
        lost = [("lost", (False,)), ("lost", (True,))]
    else:
        answered = [("answer", (True,)), ("answer", (True, False))]
        lost = [("lost", (True, False))]
    # What a lost ask could do at once it can do late as well.
    return answered + ([("lost", (False,))] if world.late else lost)


def tests_of(word, turn):
    """Return the tests of which one must hold if a statement of this word takes a turn; None always holds.

    An answer needs no items: without an ask, the program goes on as behind an answer.
    """
    if word in ("if", "while"):
        return (SOME, NONE)
    return (SOME,) if turn[0] == "lost" else (None,)


class Move:
    """A statement with its path and list, the turn that it takes, the test that must hold, and the node behind it."""

    def __init__(self, number, path, statement, turn, test, target):
        self.number = number
        self.path = path
        self.statement = statement
        self.name = statement[1] if LISTS_AT[statement[0]] else None
        self.turn = turn
        self.test = test
        self.target = target
        # Where none fails, there is a turn in which none can.
        self._can_fail = turn[0] == "answer" and False in turn[1]

    def holds(self, has_items):
        """Tell whether the test holds where the list has items, or has none."""
        return self.test is None or has_items == (self.test == SOME)

    def rest(self, left):
        """Return what is left behind the move, None if too little is left for it."""
        lost, breaks, fails = left
        if self.turn[0] == "lost":
            return None if lost == 0 else (one_less(lost), breaks, fails)
        if self._can_fail:
            return None if fails == 0 else (lost, breaks, one_less(fails))
        return left
