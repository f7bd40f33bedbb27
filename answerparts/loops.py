"""The search for runs of so many items that have steps without end."""

from answerparts.crowds import Crowds
from answerparts.moves import behind_break, has_all


class Loops:
    """A search through the states (node, crowd, left) of so many items, from a step to the next one."""

    def __init__(self, space, items):
        self._space = space
        self._crowds = Crowds(space)
        self._first = (space.begin, ((space.first_shadow, items),), space.first_left)
        self._ending = {}

    def has_one(self):
        """Tell whether a run comes back to a state where it was, and so can go on without end."""
        path = [self._first]
        todo = [self._states_behind(self._first)]
        on_path = {self._first: True}
        while path:
            if not todo[-1]:
                todo.pop()
                state = path.pop()
                del on_path[state]
                self._ending.setdefault(state[:2], []).append(state[2])
                continue
            state = todo[-1].pop()
            if state in on_path:
                return True
            if not self._is_ending(state):
                path.append(state)
                todo.append(self._states_behind(state))
                on_path[state] = True
        return False

    def _is_ending(self, state):
        """Tell whether it is known of a state, or of one with no less left, that all runs from it end."""
        return any([has_all(left, state[2]) for left in self._ending.get(state[:2], [])])

    def _states_behind(self, state):
        """Return the states behind a step, which a break can come ahead of."""
        found = {}
        for node, crowd, left in [state] + self._states_behind_break(state):
            for move in self._space.moves(node):
                rest = move.rest(left)
                has_items = move.name is not None and self._crowds.has_items(crowd, move.name)
                if rest is not None and move.holds(has_items):
                    for after, _ in self._crowds.behind(move, crowd):
                        found[(move.target, after, rest)] = True
        return list(found)

    def _states_behind_break(self, state):
        node, crowd, left = state
        rest = behind_break(left)
        if node == self._space.end or rest is None:
            return []
        return [(self._space.begin, self._crowds.broken(crowd), rest)]
