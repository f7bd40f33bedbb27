"""Small programs whose results, and least numbers of steps and items, were worked out by hand from the document."""

from answerparts.programs import Program
from answerparts.worlds import World

LISTS = ("a", "b", "c")
TELLS = (("tell", "b", "done"), ("tell", "c", "failed"))

NONE_0, NONE_1, NONE_2 = (0, None), (1, None), (2, None)
DONE_0, DONE_1, DONE_2 = (0, "done"), (1, "done"), (2, "done")
FAILED_0, FAILED_1, FAILED_2 = (0, "failed"), (1, "failed"), (2, "failed")
RIGHT = [FAILED_0, DONE_1]


def of(*block, kept=(), lists=LISTS):
    return Program(lists, block, kept)


def both(**numbers):
    """The world of each mode."""
    return World("each", **numbers), World("whole", **numbers)


SEND, KEYED = ("send", "a", "b", "c", ()), ("keyed", "a", "b", "c", ())
SIMPLE = of(SEND, *TELLS)
SIMPLE_KEYED = of(KEYED, *TELLS)
RETRY = of(("while", "a", (("send", "a", "b", "a", ()),)), TELLS[0])
RETRY_KEYED = of(("while", "a", (("keyed", "a", "b", "a", ()),)), TELLS[0])
THRICE = of(*(("send", "a", "b", "a", ()),) * 3, TELLS[0], ("tell", "a", "failed"))
LOOKING = of(("send", "a", "b", "c", (("look", "a", "b", "c", ()),)), *TELLS)
AGAIN_KEYED = of(("send", "a", "b", "c", (KEYED,)), *TELLS)
ALL_OR_FAILED = of(SEND, ("if", "c", (("tell", "b", "failed"),), (("tell", "b", "done"),)))
SOME_KNOWN = of(
    ("part", "a", "b"), ("keyed", "a", "a", "a", ()), ("move", "b", "a"), KEYED,
    ("if", "c", (("tell", "b", "failed"),), (("tell", "b", "done"),)), TELLS[1],
)
SOME_SENT = of(
    ("part", "a", "b"), ("send", "a", "a", "a", ()), ("move", "b", "a"), SEND,
    ("if", "c", (("tell", "b", "failed"),), (("tell", "b", "done"),)), TELLS[1],
)
PARTED = of(("part", "a", "b"), ("if", "b", (("tell", "a", "failed"),), (("tell", "a", "done"),)))
SHORTER_WITH_TWO = of(
    ("part", "a", "b"), ("if", "b", (), (("times", 3, (("move", "a", "a"),)),)), ("tell", "a", "done"),
)
NEVER = of(("while", "a", ()))
LOOK_TWICE = (("look", "a", "b", "c", ()), ("look", "c", "a", "c", ()), TELLS[0], ("tell", "a", "failed"))
FOUND_LATE = of(("send", "a", "b", "b", ()), *LOOK_TWICE)
FOUND_LATE_KEYED = of(("keyed", "a", "b", "b", ()), *LOOK_TWICE)
KNOWN_LATE = of(
    ("keyed", "a", "a", "a", ()), KEYED, ("if", "c", (("tell", "b", "failed"),), (("tell", "b", "done"),)),
)
# The other item, which the second keyed ask has, is known.
OTHER_KNOWN = of(
    ("keyed", "a", "a", "a", ()), ("part", "a", "b"), ("keyed", "b", "b", "b", ()),
    ("if", "b", (("tell", "a", "done"),), ()),
)
OTHER_KNOWN_LATE = of(
    ("keyed", "a", "b", "b", ()), ("look", "a", "c", "b", ()), ("keyed", "c", "c", "c", ()),
    ("if", "c", (("tell", "b", "done"),), ()),
)
THREE_LISTS = of(("part", "a", "b"), ("part", "a", "c"), ("if", "b", (("if", "c", (("tell", "a", "done"),), ()),), ()))
ONE_EACH_ROUND = of(
    ("times", 3, (("part", "a", "b"), ("if", "b", (("tell", "b", "failed"),), (("end",),)))), ("tell", "a", "done"),
)
# Others have to be in the list "b" and told, and none in the list "a".
TOLD_BEFORE = of(
    ("part", "a", "b"), ("part", "b", "c"), ("if", "b", (("tell", "b", "failed"),), (("end",),)), ("while", "a", ()),
    ("tell", "c", "done"),
)
# Both blocks lead on to the same statement, but only from one of them the run can end.
SAME_BLOCKS = of(("part", "a", "c"), ("if", "a", (), ()), ("while", "a", ()), ("tell", "c", "done"))
BROKEN_OFF = of(
    ("if", "b", (("tell", "b", "done"), ("end",)), ()), ("part", "a", "b"), ("times", 3, (("move", "a", "a"),)),
    kept=("b",),
)
OF_THE_INTERFACE = of(
    SEND, ("if", "b", (("tell", "a", "failed"), ("tell", "c", "failed")), ()), TELLS[0],
)

# Programs, worlds, and all results that are possible.
RESULTS = [
    (of(), World(lost=None, breaks=None, late=True), [NONE_0]),
    (of(("tell", "a", "done")), World(breaks=None), [DONE_0]),
    (of(("part", "a", "b"), TELLS[0]), World(), [NONE_0, DONE_0]),
    (NEVER, World(lost=None), []),
    (of(("while", "b", ())), World(), [NONE_0]),
    (of(("end",), ("tell", "a", "done")), World(breaks=1), [NONE_0]),
    (of(("times", 0, (("tell", "a", "done"),))), World(), [NONE_0]),
    *[(SIMPLE, world, RIGHT) for world in both() + both(late=True) + both(fails=2)],
    *[(SIMPLE, world, [DONE_1]) for world in both(fails=0)],
    # What was lost stays in the first list, done or not.
    *[(SIMPLE, world, [NONE_0, FAILED_0, NONE_1, DONE_1]) for world in both(lost=1) + both(lost=None, late=True)],
    *[(SIMPLE, world, [NONE_0, NONE_1, DONE_1]) for world in both(lost=1, fails=0, late=True)],
    # Done, and behind a break done again or failed; with two breaks it can be done twice and then fail.
    *[(SIMPLE, world, [FAILED_0, DONE_1, FAILED_1, DONE_2]) for world in both(breaks=1)],
    *[(SIMPLE, world, [FAILED_0, DONE_1, FAILED_1, DONE_2, FAILED_2]) for world in both(breaks=2) + both(breaks=None)],
    *[(SIMPLE, world, [DONE_1, DONE_2]) for world in both(breaks=1, fails=0) + both(breaks=None, fails=0)],
    *[(of(SEND, *TELLS, kept=("b", "c")), world, RIGHT) for world in both(breaks=1) + both(breaks=None)],
    *[(of(SEND, *TELLS, kept=("b",)), world, RIGHT) for world in both(breaks=None)],
    *[(of(SEND, *TELLS, kept=("c",)), world, [FAILED_0, DONE_1, FAILED_1, DONE_2]) for world in both(breaks=1)],
    *[(SIMPLE_KEYED, world, RIGHT) for world in both(breaks=1) + both(breaks=None)],
    *[(SIMPLE_KEYED, world, [NONE_0, FAILED_0, NONE_1, DONE_1]) for world in both(lost=1, breaks=None)],
    # Lost ahead of a break, failed behind it, and then done late.
    *[
        (SIMPLE_KEYED, world, [NONE_0, FAILED_0, NONE_1, DONE_1, FAILED_1])
        for world in both(lost=1, breaks=1, late=True) + both(lost=None, breaks=None, late=True)
    ],
    # It is tried until it is done; lost answers have it done again, but not with a key.
    *[(RETRY, world, [DONE_1]) for world in both() + both(fails=0)],
    *[(RETRY, world, [DONE_1, DONE_2]) for world in both(lost=1) + both(lost=None) + both(lost=1, late=True)],
    *[(RETRY_KEYED, world, [DONE_1]) for world in both(lost=None) + both(lost=None, late=True) + both(breaks=None)],
    # Three asks for those that failed, or were lost, before.
    *[(THRICE, world, [DONE_1]) for world in both(fails=0) + both(fails=1) + both(fails=2)],
    *[(THRICE, world, [FAILED_0, DONE_1]) for world in both(fails=3) + both(fails=None)],
    *[(THRICE, world, [DONE_1, DONE_2]) for world in both(fails=0, lost=1) + both(fails=0, lost=2, late=True)],
    *[(THRICE, world, [FAILED_0, DONE_1, FAILED_1, DONE_2, FAILED_2]) for world in both(fails=0, lost=3)],
    *[(THRICE, world, [FAILED_0, DONE_1, FAILED_1, DONE_2, FAILED_2]) for world in both(fails=0, lost=None, late=True)],
    *[(THRICE, world, [FAILED_0, DONE_1, FAILED_1, DONE_2]) for world in both(fails=2, lost=1)],
    # A look tells what was done, but not what will be done late.
    *[(LOOKING, world, RIGHT) for world in both(lost=1)],
    *[(LOOKING, world, [FAILED_0, DONE_1, FAILED_1]) for world in both(lost=1, late=True)],
    *[(LOOKING, world, [NONE_0, FAILED_0, NONE_1, DONE_1]) for world in both(lost=2)],
    *[(LOOKING, world, [NONE_0, FAILED_0, NONE_1, DONE_1, FAILED_1]) for world in both(lost=None, late=True)],
    # What the "send" did, the keyed ask does not know.
    *[(AGAIN_KEYED, world, [FAILED_0, DONE_1, FAILED_1, DONE_2]) for world in both(lost=1) + both(lost=1, late=True)],
    *[(AGAIN_KEYED, world, [DONE_1, DONE_2]) for world in both(lost=1, fails=0) + both(lost=1, fails=0, late=True)],
    *[
        (AGAIN_KEYED, world, [NONE_0, FAILED_0, NONE_1, DONE_1, FAILED_1, NONE_2, DONE_2])
        for world in both(lost=2) + both(lost=None, late=True)
    ],
    # One item fails and another one is done, but not in the mode "whole".
    (ALL_OR_FAILED, World(), [NONE_0, DONE_1, FAILED_1]),
    (ALL_OR_FAILED, World("whole"), [NONE_0, DONE_1]),
    (ALL_OR_FAILED, World(fails=0), [DONE_1]),
    # In the mode "whole" the known ones do not fail together with the others.
    (SOME_KNOWN, World("whole"), [FAILED_0, DONE_1, FAILED_1]),
    (SOME_KNOWN, World("whole", fails=0), [DONE_1]),
    (SOME_SENT, World("whole"), [FAILED_0, DONE_1, FAILED_1, DONE_2]),
    (SOME_SENT, World("whole", fails=0), [DONE_1, DONE_2]),
    (PARTED, World(), [NONE_0, DONE_0, FAILED_0]),
    # Two keyed asks that are lost do it once at most, and two "send" asks twice.
    *[(of(KEYED, KEYED), world, [NONE_0, NONE_1]) for world in both(lost=2, late=True) + both(lost=None)],
    *[(of(SEND, SEND), world, [NONE_0, NONE_1, NONE_2]) for world in both(lost=2, late=True) + both(lost=None)],
    *[(of(SEND, SEND), world, [NONE_0, NONE_1]) for world in both()],
    *[(of(SEND, KEYED), world, [NONE_0, NONE_1, NONE_2]) for world in both(lost=2, late=True)],
    # What a first look did not find, a second one can find done late.
    *[
        (program, world, [NONE_0, NONE_1, DONE_1, FAILED_1])
        for program in (FOUND_LATE, FOUND_LATE_KEYED) for world in both(lost=1, fails=0, late=True)
    ],
    *[
        (program, world, [NONE_0, DONE_1])
        for program in (FOUND_LATE, FOUND_LATE_KEYED) for world in both(lost=1, fails=0)
    ],
    # What is done late item by item is known, and does not fail with the others.
    (KNOWN_LATE, World("whole", lost=1, late=True), [NONE_0, NONE_1, DONE_1, FAILED_1]),
    (KNOWN_LATE, World("whole", lost=1), [NONE_0, NONE_1, DONE_1]),
    (KNOWN_LATE, World(), [NONE_0, DONE_1, FAILED_1]),
    *[(OTHER_KNOWN, world, [NONE_1, DONE_1]) for world in both(fails=0)],
    *[(OTHER_KNOWN_LATE, world, [NONE_0, DONE_0, NONE_1, DONE_1]) for world in both(fails=0, lost=1, late=True)],
    *[(THREE_LISTS, world, [NONE_0, DONE_0]) for world in both()],
    *[(ONE_EACH_ROUND, world, [NONE_0, DONE_0, FAILED_0]) for world in both()],
    *[(TOLD_BEFORE, world, [NONE_0, DONE_0, FAILED_0]) for world in both()],
    *[(SAME_BLOCKS, world, [DONE_0]) for world in both()],
    *[(BROKEN_OFF, world, [NONE_0, DONE_0]) for world in both(breaks=1) + both(breaks=None)],
    *[(BROKEN_OFF, world, [NONE_0]) for world in both()],
    *[(OF_THE_INTERFACE, world, [NONE_0, FAILED_0, DONE_1]) for world in (World(), World(fails=1))],
    (OF_THE_INTERFACE, World("whole"), [NONE_0, DONE_1]),
]

# Programs, worlds, a result, and the least numbers of steps and items that lead to it.
LEAST = [
    (of(), World(), NONE_0, (0, 1)),
    *[(SIMPLE, world, result, (3, 1)) for world in both(breaks=None) for result in RIGHT],
    *[(SIMPLE, world, result, (4, 1)) for world in both(breaks=1) for result in (DONE_2, FAILED_1)],
    *[(SIMPLE, world, FAILED_2, (5, 1)) for world in both(breaks=2)],
    *[(SIMPLE, world, result, (3, 1)) for world in both(lost=1, late=True) for result in (NONE_0, NONE_1)],
    *[(RETRY, world, DONE_1, (4, 1)) for world in both(lost=None) + both(lost=1, late=True)],
    *[(RETRY, world, DONE_2, (6, 1)) for world in both(lost=None) + both(lost=1, late=True)],
    *[(THRICE, world, result, (5, 1)) for world in both(fails=0, lost=3) for result in (DONE_1, FAILED_0, FAILED_2)],
    *[(LOOKING, world, FAILED_1, (4, 1)) for world in both(lost=1, late=True)],
    *[(LOOKING, world, FAILED_0, (3, 1)) for world in both(lost=1, late=True)],
    *[(LOOKING, world, FAILED_0, (4, 1)) for world in both(lost=1, fails=0)],
    *[
        (program, world, result, (5, 1))
        for program in (FOUND_LATE, FOUND_LATE_KEYED)
        for world in both(lost=1, fails=0, late=True)
        for result in (FAILED_1, NONE_1, DONE_1, NONE_0)
    ],
    *[(of(SEND, SEND), world, NONE_2, (2, 1)) for world in both(lost=2, late=True)],
    (ALL_OR_FAILED, World(), FAILED_1, (3, 2)),
    (ALL_OR_FAILED, World(), NONE_0, (3, 1)),
    (ALL_OR_FAILED, World(), DONE_1, (3, 1)),
    (SOME_KNOWN, World("whole"), FAILED_1, (7, 2)),
    (SOME_KNOWN, World("whole"), FAILED_0, (7, 1)),
    (SOME_SENT, World("whole"), FAILED_1, (7, 1)),
    (KNOWN_LATE, World("whole", lost=1, late=True), FAILED_1, (4, 2)),
    (KNOWN_LATE, World(), FAILED_1, (4, 2)),
    *[(PARTED, world, FAILED_0, (3, 2)) for world in both()],
    *[(PARTED, world, result, (3, 1)) for world in both() for result in (DONE_0, NONE_0)],
    # Alone it takes 7 steps.
    *[(SHORTER_WITH_TWO, world, DONE_0, (3, 2)) for world in both()],
    *[(SHORTER_WITH_TWO, world, NONE_0, (3, 1)) for world in both()],
    *[(OTHER_KNOWN, world, DONE_1, (5, 2)) for world in both(fails=0)],
    *[
        (OTHER_KNOWN_LATE, world, result, (5, 2))
        for world in both(fails=0, lost=1, late=True) for result in (DONE_0, DONE_1)
    ],
    *[(THREE_LISTS, world, DONE_0, (5, 3)) for world in both()],
    *[(THREE_LISTS, world, NONE_0, (3, 1)) for world in both()],
    *[(ONE_EACH_ROUND, world, DONE_0, (11, 4)) for world in both()],
    *[(ONE_EACH_ROUND, world, NONE_0, (4, 1)) for world in both()],
    *[(ONE_EACH_ROUND, world, FAILED_0, (7, 1)) for world in both()],
    *[(TOLD_BEFORE, world, DONE_0, (6, 2)) for world in both()],
    *[(TOLD_BEFORE, world, FAILED_0, (6, 1)) for world in both()],
    *[(TOLD_BEFORE, world, NONE_0, (4, 1)) for world in both()],
    *[(SAME_BLOCKS, world, DONE_0, (4, 1)) for world in both()],
    *[(BROKEN_OFF, world, DONE_0, (5, 1)) for world in both(breaks=1) + both(breaks=None)],
    (OF_THE_INTERFACE, World(), FAILED_0, (5, 2)),
]

ON_AND_ON = of(("part", "a", "b"), ("if", "b", (("while", "a", ()),), ()))
IN_PART = of(SEND, ("if", "b", (("while", "c", ()),), ()))
LATE_IN_PART = of(("send", "a", "a", "a", ()), ("look", "a", "b", "c", ()), ("if", "b", (("while", "c", ()),), ()))
WHILE_LOOK = of(("while", "a", (("look", "a", "b", "c", ()),)))

# Programs, worlds, and whether runs of one, two and three items have steps without end.
ENDLESS = [
    (of(), World(breaks=None), (False, False, False)),
    (NEVER, World(), (True, True, True)),
    (of(("while", "b", ())), World(breaks=None), (False, False, False)),
    (of(("while", "a", (("move", "a", "b"),))), World(), (False, False, False)),
    (of(("while", "a", (("part", "a", "b"),))), World(), (True, True, True)),
    (of(("while", "a", (("end",),))), World(), (False, False, False)),
    (SIMPLE, World(lost=None, late=True), (False, False, False)),
    *[(RETRY, world, (True, True, True)) for world in both() + both(fails=0, lost=None) + both(fails=3, lost=None)],
    *[(RETRY, world, (False, False, False)) for world in both(fails=0) + both(fails=3, lost=3, late=True)],
    *[(RETRY_KEYED, world, (True, True, True)) for world in both() + both(fails=0, lost=None, late=True)],
    *[(RETRY_KEYED, world, (False, False, False)) for world in both(fails=1, lost=2, breaks=3, late=True)],
    *[(WHILE_LOOK, world, (True, True, True)) for world in both(lost=None)],
    *[(WHILE_LOOK, world, (False, False, False)) for world in both(lost=3) + both(late=True)],
    # Breaks without end have steps between them only if they come ahead of a second statement.
    *[(of(("move", "a", "b"), ("end",)), world, (True, True, True)) for world in both(breaks=None)],
    *[(of(("times", 1, (("end",),))), world, (True, True, True)) for world in both(breaks=None)],
    *[(of(("move", "a", "b")), world, (False, False, False)) for world in both(breaks=None)],
    *[(of(("move", "a", "b"), ("end",)), world, (False, False, False)) for world in both(breaks=3)],
    (of(("send", "a", "b", "b", (("while", "a", ()),))), World(), (False, False, False)),
    (of(("send", "a", "b", "b", (("while", "a", ()),))), World(lost=1), (True, True, True)),
    (ON_AND_ON, World(), (False, True, True)),
    (IN_PART, World(fails=1), (False, True, True)),
    (IN_PART, World("whole"), (False, False, False)),
    (LATE_IN_PART, World("whole", lost=1, late=True), (False, True, True)),
    (LATE_IN_PART, World("whole", lost=1), (False, False, False)),
    (LATE_IN_PART, World(lost=1, fails=0), (False, True, True)),
]
