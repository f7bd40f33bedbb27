"""What a step makes of a single item.

A thing is what counts of an item: (list, count, is known, sends, is keyed, word). The list is None if the item was
told; the count is 2 for more; it is known if a keyed ask did it; sends is the number of "send" asks, 2 for more, of
which it is pending; it is keyed if it is pending of a keyed ask; the word is what was told of it.

Late doings are put off until a step depends on them: a "look", or a keyed ask whose items fail together.
"""

from answerparts.programs import ASK_WORDS


def new_thing(program):
    """Return what each item of a program is at first."""
    return (program.lists[0], 0, False, 0, False, None)


def split_thing(thing):
    """Return what a thing is, and the numbers of what it is pending of, of which more are never worse."""
    name, count, is_known, sends, is_keyed, told = thing
    return (name, count, is_known, told), (sends, int(is_keyed))


def put(thing, name):
    """Return a thing in another list."""
    return (name,) + thing[1:]


def put_back(thing, program):
    """Return what a thing is when the program has broken off."""
    if thing[0] is None or thing[0] in program.kept:
        return thing
    return put(thing, program.lists[0])


def done_by(thing, word):
    """Return a thing that is done once more, by a "send" or a keyed ask."""
    name, count, is_known, sends, is_keyed, told = thing
    count = min(count + 1, 2)
    if word == "keyed":
        return (name, count, True, sends, False, told)
    return (name, count, is_known, sends, is_keyed, told)


def owed_by(thing, word):
    """Return a thing that is pending of one more "send" or keyed ask."""
    name, count, is_known, sends, is_keyed, told = thing
    if word == "keyed":
        return (name, count, is_known, sends, True, told)
    return (name, count, is_known, min(sends + 1, 2), is_keyed, told)


def done_late_by(thing, word):
    """Return a thing that is done late by a "send" or a keyed ask of which it is pending."""
    name, count, is_known, sends, is_keyed, told = thing
    if word == "send":
        sends -= 1
    return done_by((name, count, is_known, sends, is_keyed, told), word)


def outcomes(statement, turn, thing, late):
    """Return what a step can make of a thing: tuples (thing, whether the event names it, late word).

    The late word is that of the ask that does the item late ahead of the step, None if there is none.
    """
    word = statement[0]
    if word in ("if", "while", "times", "end") or thing[0] != statement[1]:
        return [(thing, False, None)]
    if word == "move":
        return [(put(thing, statement[2]), False, None)]
    if word == "tell":
        return [((None,) + thing[1:5] + (statement[2],), False, None)]
    if word == "part":
        return [(put(thing, statement[2]), True, None), (thing, False, None)]
    if word == "look":
        return looked_at(statement, turn, thing)
    if word == "keyed" and thing[2]:
        return [(put(thing, statement[2]) if turn[0] == "answer" else thing, False, None)]
    return asked(statement, turn, thing, late)


def looked_at(statement, turn, thing):
    """Return the outcomes of a thing in the list of a "look"."""
    if turn[0] == "lost":
        return [(thing, False, None)]
    if thing[1] > 0:
        return [(put(thing, statement[2]), False, None)]
    rows = [(put(thing, statement[3]), False, None)]
    if thing[3] > 0:
        rows.append((put(done_late_by(thing, "send"), statement[2]), False, "send"))
    if thing[4]:
        rows.append((put(done_late_by(thing, "keyed"), statement[2]), False, "keyed"))
    return rows


def asked(statement, turn, thing, late):
    """Return the outcomes of a thing in the list of an ask that can do it."""
    word = statement[0]
    event, means = turn
    rows = []
    for is_done in means:
        after = done_by(thing, word) if is_done else thing
        if event == "answer":
            after = put(after, statement[2] if is_done else statement[3])
        elif late and not is_done:
            after = owed_by(after, word)
        rows.append((after, is_done, None))
    # Where all fail together, what was done late ahead of the ask is known, and does not.
    if word == "keyed" and thing[4] and event == "answer" and True not in means:
        rows.append((put(done_late_by(thing, word), statement[2]), False, word))
    return rows


def is_failure(statement, turn, thing, outcome):
    """Tell whether an outcome of a thing, one of those that outcomes returns, is that an answered ask failed for it."""
    word = statement[0]
    if word not in ASK_WORDS or turn[0] != "answer" or thing[0] != statement[1]:
        return False
    _, is_done, late = outcome
    is_known = word == "keyed" and (thing[2] or late is not None)
    return not is_done and not is_known
