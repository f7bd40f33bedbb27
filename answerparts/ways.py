"""The ways of so many items to a result, with as few steps as can be."""

from answerparts.crowds import Crowds
from answerparts.moves import behind_break, has_all
from answerparts.things import split_thing


class Stage:
    """Where a way is: a node, the crowd, the watched thing, what is left, and the stage ahead with the step between.

    A step is (move, word of its event, fate of the watched item, portions of the crowd); a break is None.
    """

    def __init__(self, node, crowd, thing, left, back, step):
        self.node = node
        self.crowd = crowd
        self.thing = thing
        self.left = left
        self.back = back
        self.step = step


class Ways:
    """A search through the stages of so many items, one of which is watched."""

    def __init__(self, space, items):
        self._space = space
        self._crowds = Crowds(space)
        self._seen = {}
        crowd = ((space.first_shadow, items - 1),) if items > 1 else ()
        self._first = Stage(space.begin, crowd, space.first_thing, space.first_left, None, None)

    def way_to(self, result, steps):
        """Return the last stage of a way of so many steps, none of which can be saved, to a result, None if none is."""
        layer = []
        self._add(layer, self._first)
        for _ in range(steps):
            self._break_off(layer)
            behind = []
            for stage in layer:
                for move in self._space.moves(stage.node):
                    self._follow(stage, move, behind)
            layer = behind
        for stage in layer:
            if stage.node == self._space.end and result in self._space.results_of(stage.thing):
                return stage
        return None

    def _break_off(self, layer):
        for stage in list(layer):
            left = behind_break(stage.left)
            if stage.node != self._space.end and left is not None:
                crowd = self._crowds.broken(stage.crowd)
                thing = self._space.broken_thing(stage.thing)
                self._add(layer, Stage(self._space.begin, crowd, thing, left, stage, None))

    def _follow(self, stage, move, behind):
        left = move.rest(stage.left)
        has_items = self._has_items(stage, move.name)
        if left is None or not move.holds(has_items):
            return
        event = move.turn[0] if has_items else None
        for crowd, taken in self._crowds.behind(move, stage.crowd):
            for fate in self._space.fates(move, stage.thing):
                step = (move, event, fate, taken)
                self._add(behind, Stage(move.target, crowd, fate[0], left, stage, step))

    def _has_items(self, stage, name):
        if name is None:
            return False
        return self._space.thing_of(stage.thing)[0] == name or self._crowds.has_items(stage.crowd, name)

    def _add(self, layer, stage):
        """Add a stage to a layer, but not if an earlier one can do what it can."""
        core, pending = split_thing(self._space.thing_of(stage.thing))
        numbers = stage.left + pending
        seen = self._seen.setdefault((stage.node, stage.crowd, core), [])
        if not any([has_all(others, numbers) for others in seen]):
            seen.append(numbers)
            layer.append(stage)
