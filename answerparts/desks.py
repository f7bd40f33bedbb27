"""Desks, which keep a program and a world, and what was done to them."""

from answerparts.programs import Program
from answerparts.reaching import results


class Desk:
    """A program and a world, with the edits that can be taken back and those that can be done again.

    The state is what stands, a pair (program, world), and two tuples of such pairs: what stood ahead of each edit that
    stands, and what stood behind each one that was taken back, with the one for the next undo or redo at the end.
    """

    def __init__(self, program, world):
        self._state = ((program, world), (), ())
        # The state in which a "with" began, None outside.
        self._held = None
        self._asked = None
        self._found = []
        self._fresh = 0

    @property
    def program(self):
        """The program that stands."""
        return self._state[0][0]

    @property
    def world(self):
        """The world that stands."""
        return self._state[0][1]

    @property
    def fresh(self):
        """The number of times that the results were worked out."""
        return self._fresh

    def __getitem__(self, path):
        return self.program[path]

    def __setitem__(self, path, statement):
        self._edit(self.program.with_statement(path, statement), self.world)

    # Without this, Python would iterate over a desk by the indexes 0, 1, 2 ..
    def __iter__(self):
        raise TypeError("a desk is not iterated over, the paths() of its program are")

    def keep(self, name):
        """Keep one list more."""
        program = self.program
        # This raises InvalidLists if there is no such list, or it is kept: then it would stand there twice.
        self._edit(Program(program.lists, program.block, program.kept + (name,)), self.world)

    def go_to(self, world):
        """Take another world."""
        self._edit(self.program, world)

    def undo(self):
        """Take back the last edit that stands; return whether there was one."""
        stands, back, again = self._state
        if self._held is not None or not back:
            return False
        self._state = (back[-1], back[:-1], again + (stands,))
        return True

    def redo(self):
        """Do the last edit that was taken back again; return whether there was one."""
        stands, back, again = self._state
        if self._held is not None or not again:
            return False
        self._state = (again[-1], back + (stands,), again[:-1])
        return True

    def results(self):
        """Return the results that are possible."""
        stands = self._state[0]
        if self._asked != stands:
            self._found = results(stands[0], stands[1])
            self._asked = stands
            self._fresh += 1
        return list(self._found)

    def __enter__(self):
        self._held = self._state
        return self

    def __exit__(self, kind, value, trace):
        if kind is not None:
            self._state = self._held
        self._held = None

    def _edit(self, program, world):
        # All edits in one "with" are one edit of what stood when it began.
        stood, back, _ = self._state if self._held is None else self._held
        self._state = ((program, world), back + (stood,), ())


def tried(desk, edits):
    """Replace the statements at paths, all in one edit, and return the results that are possible then."""
    with desk:
        for path, statement in edits:
            desk[path] = statement
    return desk.results()
