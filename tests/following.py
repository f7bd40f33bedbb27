"""Which rows follow from which: points 14 to 16, written from the document alone. It shares nothing with the package.

Rows are as papers have them. Where a row goes on is told by all places that are still to be executed behind it.
"""

import itertools

BLOCKS = {"send": (4,), "keyed": (4,), "look": (4,), "if": (2, 3), "while": (2,), "times": (2,)}
END = ((), ())


class TooMany(Exception):
    """There are more rows than were asked for."""


def places_in(program, path, number, rounds):
    """The places of all statements of a block."""
    block = program[path][BLOCKS[program[path][0]][number]] if path else program.block
    return [((path + (number, index)) if path else (index,), rounds) for index in range(len(block))]


def places_behind(program, path, rounds):
    """The places of what is still to be executed behind a statement, without what that leads to."""
    siblings = places_in(program, path[:-2], path[-2] if len(path) > 1 else 0, rounds)
    rest = [place for place in siblings if place[0][-1] > path[-1]]
    if len(path) == 1:
        return rest
    around = path[:-2]
    if program[around][0] == "while":
        return rest + [(around, rounds)] + places_behind(program, around, rounds)
    if program[around][0] != "times":
        return rest + places_behind(program, around, rounds)
    for more in range(rounds[-1] - 1, 0, -1):
        rest += places_in(program, around, 0, rounds[:-1] + (more,))
    return rest + places_behind(program, around, rounds[:-1])


def next_place(program, path, rounds, has_items, is_lost):
    statement, inner = program[path], []
    word = statement[0]
    if word == "end":
        return END
    if word == "times":
        for more in range(statement[1], 0, -1):
            inner += places_in(program, path, 0, rounds + (more,))
    elif word == "if":
        inner = places_in(program, path, 0 if has_items else 1, rounds)
    elif word == "while" and has_items:
        inner = places_in(program, path, 0, rounds) + [(path, rounds)]
    elif is_lost:
        inner = places_in(program, path, 0, rounds)
    return (inner + places_behind(program, path, rounds) + [END])[0]


def first_rows(program, world):
    path = (0,) if program.block else ()
    name = program.lists[0]
    left = (world.lost, world.breaks, world.fails)
    return [(path, (), left, others, (name, 0, False, 0, False, None)) for others in ((), ((name, 0, ()),))]


def ordered(shadows):
    return tuple(sorted(set(shadows), key=lambda shadow: (shadow[0] is not None, shadow[0] or "", shadow[1:])))


def row_order(row):
    path, rounds, left, others, (name, count, known, sends, keyed, word) = row
    numbers = [(0, 0) if number is None else (1, number) for number in left]
    shadows = [(shadow[0] is not None, shadow[0] or "", shadow[1:]) for shadow in others]
    watched = (name is not None, name or "", count, known, sends, keyed, word is not None, word or "")
    return (path, rounds, numbers, shadows, watched)


def less(number):
    return number if number is None else number - 1


def shadow_done(shadow, word):
    name, state, pending = shadow
    if state == 2 or word == "keyed":
        return (name, 2, ())
    return (name, 1, tuple(other for other in pending if other != "send"))


def shadow_owed(shadow, word):
    name, state, pending = shadow
    if state == 2 or (state == 1 and word == "send"):
        return shadow
    return (name, state, tuple(sorted({*pending, word})))


def watched_done(watched, word, is_late=False):
    name, count, known, sends, keyed, told = watched
    if word == "keyed":
        return (name, min(count + 1, 2), True, sends, False, told)
    return (name, min(count + 1, 2), known, sends - is_late, keyed, told)


def watched_owed(watched, word):
    name, count, known, sends, keyed, told = watched
    return (name, count, known, min(sends + (word == "send"), 2), keyed or word == "keyed", told)


def put(item, name):
    return (name,) + item[1:]


def all_together(chances):
    """Each shadow has pairs (shadow behind, whether it failed): all ways to take one or more of each."""
    found = {(frozenset(), False)}
    for pairs in chances:
        ways = [some for many in range(1, len(pairs) + 1) for some in itertools.combinations(pairs, many)]
        found = {
            (shadows | {shadow for shadow, _ in some}, failed or any(fails for _, fails in some))
            for shadows, failed in found for some in ways
        }
    return found


def follow(program, world, row):
    """All rows that follow from a row."""
    path, rounds, left, others, watched = row
    found = set()
    if watched[3]:
        found.add((path, rounds, left, others, watched_done(watched, "send", True)))
    if watched[4]:
        found.add((path, rounds, left, others, watched_done(watched, "keyed")))
    if not path:
        return found
    if left[1] != 0:
        back = [
            item if item[0] is None or item[0] in program.kept else put(item, program.lists[0])
            for item in (*others, watched)
        ]
        first = first_rows(program, world)[0]
        found.add(first[:2] + ((left[0], less(left[1]), left[2]), ordered(back[:-1]), back[-1]))
    for (place, behind), shadows, after in steps(program, world, row):
        found.add(place + (behind, ordered(shadows), after))
    return found


def steps(program, world, row):
    path, rounds, left, others, watched = row
    statement = program[path]
    word = statement[0]
    here = [other for other in others if word not in ("times", "end") and other[0] == statement[1]]
    away = [other for other in others if other not in here]
    is_here = word not in ("times", "end") and watched[0] == statement[1]
    has_items = is_here or bool(here)

    def to(is_lost=False):
        return next_place(program, path, rounds, has_items, is_lost)

    if not has_items or word in ("if", "while", "times", "end"):
        yield (to(), left), others, watched
    elif word == "move":
        yield (to(), left), away + [put(other, statement[2]) for other in here], (
            put(watched, statement[2]) if is_here else watched
        )
    elif word == "tell":
        yield (to(), left), away + [put(other, None) for other in here], (
            (None,) + watched[1:5] + (statement[2],) if is_here else watched
        )
    elif word == "part":
        for shadows, _ in all_together([[(other, False), (put(other, statement[2]), False)] for other in here]):
            for after in [watched, put(watched, statement[2])] if is_here else [watched]:
                yield (to(), left), away + list(shadows), after
    elif word == "look":
        if left[0] != 0:
            yield (to(True), (less(left[0]), *left[1:])), others, watched
        after = put(watched, statement[2] if watched[1] else statement[3]) if is_here else watched
        for shadows, _ in all_together([found_by_look(other, statement) for other in here]):
            yield (to(), left), away + list(shadows), after
    else:
        for shared in [(True, False)] if world.mode == "each" else [(True,), (False,)]:
            yield from answered(statement, left, here, away, watched, is_here, shared, to)
            if left[0] != 0:
                yield from lost(world, statement, left, here, away, watched, is_here, shared, to)


def found_by_look(shadow, statement):
    name, state, pending = shadow
    if state:
        return [(put(shadow, statement[2]), False)]
    found = [(put(shadow, statement[3]), False)]
    return found + [(put(shadow_done(shadow, word), statement[2]), False) for word in pending]


def answered(statement, left, here, away, watched, is_here, shared, to):
    word, _, right, wrong, _ = statement
    chances = []
    for shadow in here:
        pairs = []
        if word == "keyed" and shadow[1] == 2:
            pairs.append((put(shadow, right), False))
        else:
            if True in shared:
                pairs.append((put(shadow_done(shadow, word), right), False))
            if False in shared:
                pairs.append((put(shadow, wrong), True))
            if shared == (False,) and word == "keyed" and "keyed" in shadow[2]:
                pairs.append(((right, 2, ()), False))
        chances.append(pairs)
    fates = [(watched, False)]
    if is_here and word == "keyed" and watched[2]:
        fates = [(put(watched, right), False)]
    elif is_here:
        fates = [
            (put(watched_done(watched, word), right), False) if done else (put(watched, wrong), True) for done in shared
        ]
    for (shadows, failed), (after, fails) in itertools.product(all_together(chances), fates):
        if not (failed or fails):
            yield (to(), left), away + list(shadows), after
        elif left[2] != 0:
            yield (to(), (left[0], left[1], less(left[2]))), away + list(shadows), after


def lost(world, statement, left, here, away, watched, is_here, shared, to):
    word = statement[0]

    def undone(item, owed):
        return owed(item, word) if world.late else item

    chances = []
    for shadow in here:
        pairs = [(shadow_done(shadow, word), False)] if True in shared else []
        pairs += [(undone(shadow, shadow_owed), False)] if False in shared else []
        chances.append([(shadow, False)] if word == "keyed" and shadow[1] == 2 else pairs)
    fates = [watched]
    if is_here and not (word == "keyed" and watched[2]):
        fates = [watched_done(watched, word) if done else undone(watched, watched_owed) for done in shared]
    for (shadows, _), after in itertools.product(all_together(chances), fates):
        yield (to(True), (less(left[0]), *left[1:])), away + list(shadows), after


def all_rows(program, world, most=10 ** 9):
    """All rows that follow from those with which a run begins, and these, ascending."""
    todo = first_rows(program, world)
    seen = set(todo)
    while todo:
        for row in follow(program, world, todo.pop()):
            if row not in seen:
                seen.add(row)
                todo.append(row)
                if len(seen) > most:
                    raise TooMany
    return tuple(sorted(seen, key=row_order))


def results_of(rows):
    """The results that the rows at the end have, in the order of point 10."""
    found = {(row[4][1], row[4][5]) for row in rows if not row[0]}
    return sorted(found, key=lambda result: (result[0], result[1] is not None, result[1] or ""))
