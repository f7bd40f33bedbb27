"""Moves: the ways in which a statement can be executed, and what they use up of what a world allows.

What is left of this is (lost, breaks, fails): how many answers can still be lost, how often the program can still break
off, and in how many asks items can still fail.
"""

from answerparts.programs import ASK_WORDS, LISTS_AT

# Instead of None, so that numbers can be compared: no world has a greater one.
ANY = 4

# The tests: the list of the statement has items, or none.
SOME = "some"
NONE = "none"


def as_numbers(bounds):
    """Return what is left where None stands for any number."""
    return tuple([ANY if bound is None else bound for bound in bounds])


def as_bounds(left):
    """Return what is left with None for any number."""
    return tuple([None if number == ANY else number for number in left])


def left_in(world):
    """Return what a world allows at first."""
    return as_numbers((world.lost, world.breaks, world.fails))


def one_less(number):
    """Return what is left of a number when one is used up."""
    return number if number == ANY else number - 1


def behind_loss(left):
    """Return what is left when an answer is lost, None if none can be."""
    lost, breaks, fails = left
    return None if lost == 0 else (one_less(lost), breaks, fails)


def behind_break(left):
    """Return what is left when the program has broken off, None if it cannot."""
    lost, breaks, fails = left
    return None if breaks == 0 else (lost, one_less(breaks), fails)


def behind_failure(left):
    """Return what is left when items of an ask have failed, None if they cannot."""
    lost, breaks, fails = left
    return None if fails == 0 else (lost, breaks, one_less(fails))


def has_all(numbers, others):
    """Tell whether no number is less than the other one in its place."""
    return all([number >= other for number, other in zip(numbers, others)])


def turns_of(word, world):
    """Return the turns that a statement of this word can take.

    A turn is the word of its event, None if it needs none, and what an ask can mean for an item: done or not.
    """
    if word == "part":
        return [("part", ())]
    if word == "look":
        return [("answer", ()), ("lost", ())]
    if word not in ASK_WORDS:
        return [(None, ())]
    means = [(True,), (False,)] if world.mode == "whole" else [(True, False)]
    return [(event, mean) for event in ("answer", "lost") for mean in means]


def decisive_turns_of(word, world):
    """Return the turns of a statement of this word to which all that can become of an item can be put down."""
    if word not in ASK_WORDS:
        return turns_of(word, world)
    turns = turns_of(word, world)
    answered = [turn for turn in turns if turn[0] == "answer"]
    if world.mode == "each":
        # Where none fails, nothing is used up.
        answered = [("answer", (True,))] + answered
    # What a lost ask could do at once it can do late as well.
    lost = [("lost", (False,))] if world.late else [turn for turn in turns if turn[0] == "lost"]
    return answered + lost


def tests_of(word, turn):
    """Return the tests of which one must hold if a statement of this word takes a turn; None always holds.

    An answer needs no items: without an ask, the program goes on as behind an answer.
    """
    if word in ("if", "while"):
        return (SOME, NONE)
    return (SOME,) if turn[0] == "lost" else (None,)


class Move:
    """A statement with its path and list, the turn that it takes, the test that must hold, and the node behind it."""

    def __init__(self, number, path, statement, turn, test, target):
        self.number = number
        self.path = path
        self.statement = statement
        self.name = statement[1] if LISTS_AT[statement[0]] else None
        self.turn = turn
        self.test = test
        self.target = target
        # Where none fails, there is a turn in which none can.
        self._can_fail = turn[0] == "answer" and False in turn[1]

    def holds(self, has_items):
        """Tell whether the test holds where the list has items, or has none."""
        return self.test is None or has_items == (self.test == SOME)

    def rest(self, left):
        """Return what is left behind the move, None if too little is left for it."""
        if self.turn[0] == "lost":
            return behind_loss(left)
        return behind_failure(left) if self._can_fail else left
