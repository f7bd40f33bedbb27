"""Places: what a program executes next, and where it goes from there.

A place is (path, rounds): the path of the next statement, and the rounds that are still to be executed of the "times"
statements around it, the present one included, the outermost first.
"""

from answerparts.programs import blocks_of

END = ((), ())

# The statements that need an event if their list has items.
EVENT_WORDS = ("send", "keyed", "look", "part")


def first_place(program):
    """Return the place at which a program begins, also after it has broken off."""
    return ((0,), ()) if program.block else END


def block_around(program, path):
    """Return the block that a statement stands in."""
    if len(path) == 1:
        return program.block
    return blocks_of(program[path[:-2]])[path[-2]]


def place_behind(program, place):
    """Return the place that follows when the statement at a place is over."""
    path, rounds = place
    if path[-1] + 1 < len(block_around(program, path)):
        return (path[:-1] + (path[-1] + 1,), rounds)
    if len(path) == 1:
        return END
    around = path[:-2]
    word = program[around][0]
    if word == "while":
        return (around, rounds)
    if word != "times":
        return place_behind(program, (around, rounds))
    if rounds[-1] > 1:
        return (path[:-1] + (0,), rounds[:-1] + (rounds[-1] - 1,))
    return place_behind(program, (around, rounds[:-1]))


def place_within(program, place, number):
    """Return the place that follows when the statement at a place executes its block of this number."""
    path, rounds = place
    statement = program[path]
    if statement[0] == "times":
        rounds = rounds + (statement[1],)
    if blocks_of(statement)[number] and 0 not in rounds:
        return (path + (number, 0), rounds)
    # A block without statements is over at once.
    if statement[0] == "while":
        return place
    return place_behind(program, place)


def place_after(program, place, has_items, is_lost):
    """Return the place behind a step: whether the statement's list has items, whether its answer is lost."""
    word = program[place[0]][0]
    if word == "end":
        return END
    if word == "if":
        return place_within(program, place, 0 if has_items else 1)
    if word == "times" or is_lost or (word == "while" and has_items):
        return place_within(program, place, 0)
    return place_behind(program, place)
