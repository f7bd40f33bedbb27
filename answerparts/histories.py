"""Histories: the events of a way, where each item has a number and the watched one is item 0.

A mark tells of an item at a step: whether the event names it, and the word of the ask that does it late ahead of the
step, None if there is none. The track of an item is the tuple of its marks.
"""

NO_MARK = (False, None)


def stages_to(last):
    """Return the stages of a way that has this last one."""
    stages = [last]
    while stages[-1].back is not None:
        stages.append(stages[-1].back)
    return stages[::-1]


class Tracks:
    """The tracks of the items of a way."""

    def __init__(self, space, stages):
        self._space = space
        self._watched = ()
        self._told = []
        self._groups = {shadow: [()] * many for shadow, many in stages[0].crowd}
        for stage in stages[1:]:
            if stage.step is None:
                self._break_off()
            else:
                self._step(stage.step)

    def rows(self):
        """Return the tracks of all items, first that of the watched one. Those of items that were told are shorter."""
        rows = [self._watched] + self._told
        for group in list(self._groups.values()):
            rows = rows + group
        return rows

    def _break_off(self):
        self._watched = self._watched + (NO_MARK,)
        groups = {}
        for shadow, group in self._groups.items():
            broken = self._space.broken_shadow(shadow)
            groups[broken] = groups.get(broken, []) + [track + (NO_MARK,) for track in group]
        self._groups = groups

    def _step(self, step):
        move, _, fate, taken = step
        self._watched = self._watched + (fate[1:],)
        groups = {}
        # A crowd is ascending, and so are its portions.
        for shadow, portion in zip(sorted(list(self._groups)), taken):
            group = self._groups[shadow]
            for share, many in zip(self._space.shares(move, shadow), portion):
                longer = [track + (share[1:],) for track in group[:many]]
                group = group[many:]
                if share[0] is None:
                    self._told = self._told + longer
                elif longer:
                    groups[share[0]] = groups.get(share[0], []) + longer
        self._groups = groups


def marks_at(tracks, at):
    """Return the marks of all items at a stage."""
    return [track[at] if at < len(track) else NO_MARK for track in tracks]


def events_of(word, event, marks, known):
    """Return the events of a step by a statement of this word, and note which items are known by them."""
    events = [("late", item, late) for item, (_, late) in enumerate(marks) if late is not None]
    for _, item, late in events:
        if late == "keyed":
            known[item] = True
    if event is None:
        return events
    named = [item for item, (is_named, _) in enumerate(marks) if is_named]
    if word == "keyed":
        # A shadow does not tell that an item is known where nothing depends on it.
        named = [item for item in named if item not in known]
        known.update({item: True for item in named})
    return events + [(event, tuple(named))]


def last_events(thing, count):
    """Return the events behind the end by which the watched item gets a count."""
    lacking = count - thing[1]
    sends = min(lacking, thing[3])
    return [("late", 0, "send")] * sends + [("late", 0, "keyed")] * (lacking - sends)


def history_of(space, last, count):
    """Return the history of a way with this last stage, by which item 0 gets a count."""
    stages = stages_to(last)
    tracks = Tracks(space, stages).rows()
    known = {}
    events = []
    steps = 0
    for at, stage in enumerate(stages[1:]):
        if stage.step is None:
            events.append(("break", steps))
        else:
            move, event, _, _ = stage.step
            events.extend(events_of(move.statement[0], event, marks_at(tracks, at), known))
            steps += 1
    return tuple(events + last_events(space.thing_of(last.thing), count))
