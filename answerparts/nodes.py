"""The nodes of a program, which are numbers of its places, and the moves from them."""

from answerparts.flow import END, first_place, place_after
from answerparts.moves import NONE, Move, tests_of
from answerparts.pools import Pool


class Nodes:
    """The nodes and moves of a program whose statements can take these turns, by their words."""

    def __init__(self, program, turns):
        self._program = program
        self._turns = turns
        self._places = Pool()
        self._moves_at = {}
        self._many_moves = 0
        self.begin = self.number_of(first_place(program))
        self.end = self.number_of(END)

    def number_of(self, place):
        """Return the node of a place."""
        return self._places.number_of(place)

    def place_of(self, node):
        """Return the place of a node."""
        return self._places.value_of(node)

    def moves(self, node):
        """Return the moves from a node."""
        if node == self.end:
            return []
        if node not in self._moves_at:
            self._moves_at[node] = self._new_moves(self.place_of(node))
        return self._moves_at[node]

    def _new_moves(self, place):
        statement = self._program[place[0]]
        moves = []
        for turn in self._turns[statement[0]]:
            for test in tests_of(statement[0], turn):
                after = place_after(self._program, place, test != NONE, turn[0] == "lost")
                move = Move(self._many_moves, place[0], statement, turn, test, self.number_of(after))
                moves.append(move)
                self._many_moves += 1
        return moves
