"""Draws from a fixed list of numbers, in the place of chance, and what is drawn by them: programs and worlds."""

from answerparts.errors import InvalidBlock
from answerparts.programs import Program
from answerparts.worlds import World

LISTS = ("a", "b", "c", "d")
NUMBERS = (0, 0, 1, 1, 2, 3, None)


class Draws:
    """The same numbers each time, for each seed."""

    def __init__(self, seed):
        self.number = seed * 7919 + 12345
        for _ in range(3):
            self.below(2)

    def below(self, many):
        self.number = (self.number * 6364136223846793005 + 1442695040888963407) % 2 ** 64
        return (self.number >> 33) % many

    def one_of(self, rows):
        return rows[self.below(len(rows))]

    def some_of(self, rows):
        return tuple(row for row in rows if self.below(2))


def drawn_statement(draws, lists, depth):
    words = ("send", "keyed", "look", "move", "part", "tell", "if", "while", "times", "send", "keyed", "part", "gate")
    word = draws.one_of(words + (("end",) if draws.below(3) == 0 else ()))
    one, two, three = (draws.one_of(lists) for _ in range(3))

    def block():
        if depth == 2:
            return ()
        return tuple(drawn_statement(draws, lists, depth + 1) for _ in range(draws.below(3)))

    if word in ("send", "keyed", "look"):
        return (word, one, two, three, block())
    if word in ("move", "part"):
        return (word, one, two)
    if word == "tell":
        return (word, one, draws.one_of(("done", "failed")))
    if word == "if":
        return (word, one, block(), block())
    if word == "while":
        return (word, one, block())
    if word == "times":
        return (word, draws.below(4), block())
    if word == "gate":
        # Goes no further unless the list has items.
        return ("if", one, (), (("end",),) if depth < 2 else ())
    return ("end",)


def drawn_program(draws, most=6):
    """A program, with something told at its end more often than not."""
    lists = LISTS[: draws.one_of((1, 2, 3, 3, 4))]
    while True:
        block = tuple(drawn_statement(draws, lists, 0) for _ in range(1 + draws.below(most)))
        if draws.below(4):
            block = block + (("tell", draws.one_of(lists), "done"),)
        try:
            return Program(lists, block, draws.some_of(lists))
        except InvalidBlock:
            pass


def drawn_world(draws, numbers=NUMBERS):
    lost, breaks, fails = (draws.one_of(numbers) for _ in range(3))
    return World(draws.one_of(("each", "whole")), lost=lost, breaks=breaks, fails=fails, late=draws.below(2) == 1)
