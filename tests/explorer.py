"""All that a few items can go through, from the document alone: it shares nothing with the package's search.

A state is (todo, items, left): the paths of the statements still to be executed, the items in ascending order, and how
many answers can be lost, how often the program can break off and in how many asks items can fail. An item is
(list, count up to 2, known, pending sends up to 2, pending of a keyed ask, word). A late doing is a move of its own.
"""

import collections
import itertools

BLOCKS = {"send": (4,), "keyed": (4,), "look": (4,), "if": (2, 3), "while": (2,), "times": (2,)}
ANY = 99


class TooMany(Exception):
    """There are more states than were asked for."""


def some_left(bound):
    return ANY if bound is None else bound


def less(number):
    return number if number == ANY else number - 1


def inner(program, path, number):
    statement = program[path]
    block = statement[BLOCKS[statement[0]][number]]
    return tuple(path + (number, index) for index in range(len(block)))


def first_todo(program):
    return tuple((index,) for index in range(len(program.block)))


def in_order(items):
    return tuple(sorted(items, key=lambda item: tuple(str(part) for part in item)))


def put(item, name):
    return (name,) + item[1:]


def done(item, word):
    name, count, known, sends, keyed, told = item
    if word == "keyed":
        return (name, min(count + 1, 2), True, sends, False, told)
    return (name, min(count + 1, 2), known, sends, keyed, told)


def owed(item, word):
    name, count, known, sends, keyed, told = item
    if word == "keyed":
        return (name, count, known, sends, True, told)
    return (name, count, known, min(sends + 1, 2), keyed, told)


def late_states(state):
    todo, items, left = state
    for at, item in enumerate(items):
        others = items[:at] + items[at + 1:]
        name, count, known, sends, keyed, told = item
        if sends:
            yield (todo, in_order(others + (done((name, count, known, sends - 1, keyed, told), "send"),)), left)
        if keyed:
            yield (todo, in_order(others + (done(item, "keyed"),)), left)


def broken_states(program, state):
    todo, items, (lost, breaks, fails) = state
    if todo and breaks:
        back = [item if item[0] in (None, *program.kept) else put(item, program.lists[0]) for item in items]
        yield (first_todo(program), in_order(back), (lost, less(breaks), fails))


def step_states(program, world, state):
    """The states that the next statement leads to."""
    todo, items, left = state
    path, rest = todo[0], todo[1:]
    statement = program[path]
    word = statement[0]
    here = [item for item in items if word not in ("times", "end") and item[0] == statement[1]]
    others = [item for item in items if item not in here]
    if word == "end":
        yield ((), items, left)
    elif word == "times":
        yield (inner(program, path, 0) * statement[1] + rest, items, left)
    elif word == "if":
        yield (inner(program, path, 0 if here else 1) + rest, items, left)
    elif word == "while":
        yield (inner(program, path, 0) + todo if here else rest, items, left)
    elif word == "move":
        yield (rest, in_order(others + [put(item, statement[2]) for item in here]), left)
    elif word == "tell":
        yield (rest, in_order(others + [(None,) + item[1:5] + (statement[2],) for item in here]), left)
    elif not here:
        yield (rest, items, left)
    elif word == "part":
        for parted in itertools.product(*(((put(item, statement[2])), item) for item in here)):
            yield (rest, in_order(others + list(parted)), left)
    elif word == "look":
        found = [put(item, statement[2] if item[1] else statement[3]) for item in here]
        yield (rest, in_order(others + found), left)
        if left[0]:
            yield (inner(program, path, 0) + rest, items, (less(left[0]),) + left[1:])
    else:
        yield from asked_states(program, world, state, here, others)


def asked_states(program, world, state, here, others):
    todo, _, (lost, breaks, fails) = state
    path, rest = todo[0], todo[1:]
    word, _, right, wrong, _ = program[path]
    new = [not (word == "keyed" and item[2]) for item in here]
    for dones in itertools.product((True, False), repeat=len(here)):
        if any(is_done and not is_new for is_done, is_new in zip(dones, new)):
            continue
        done_new = {is_done for is_done, is_new in zip(dones, new) if is_new}
        if world.mode == "whole" and len(done_new) == 2:
            continue
        rows = list(zip(here, dones, new))
        failing = False in done_new
        if fails or not failing:
            after = [
                put(done(item, word), right) if is_done else put(item, wrong if is_new else right)
                for item, is_done, is_new in rows
            ]
            yield (rest, in_order(others + after), (lost, breaks, less(fails) if failing else fails))
        if lost:
            after = [
                done(item, word) if is_done else owed(item, word) if world.late and is_new else item
                for item, is_done, is_new in rows
            ]
            yield (inner(program, path, 0) + rest, in_order(others + after), (less(lost), breaks, fails))


def moves(program, world, state):
    """Pairs of a number of steps, 0 or 1, and the state behind."""
    rows = [(0, after) for after in late_states(state)] + [(0, after) for after in broken_states(program, state)]
    if state[0]:
        rows.extend((1, after) for after in step_states(program, world, state))
    return rows


def explored(program, world, items, most=40000):
    """The least number of steps to each state that so many items can be in."""
    item = (program.lists[0], 0, False, 0, False, None)
    left = tuple(some_left(bound) for bound in (world.lost, world.breaks, world.fails))
    first = (first_todo(program), (item,) * items, left)
    steps = {first: 0}
    todo = collections.deque([first])
    while todo:
        state = todo.popleft()
        for more, after in moves(program, world, state):
            if steps[state] + more < steps.get(after, ANY * ANY):
                steps[after] = steps[state] + more
                if len(steps) > most:
                    raise TooMany
                if more:
                    todo.append(after)
                else:
                    todo.appendleft(after)
    return steps


def least_steps(program, world, items, most=40000):
    """The least number of steps to each result that so many items can have."""
    found = {}
    for state, steps in explored(program, world, items, most).items():
        if not state[0]:
            for item in state[1]:
                result = (item[1], item[5])
                found[result] = min(steps, found.get(result, steps))
    return found


def is_endless(program, world, items, most=40000):
    """Whether states follow from each other in a circle with a step in it."""
    rows = explored(program, world, items, most)
    behind = {state: {after for after in steps_behind(program, world, state)} for state in rows}
    ahead = collections.Counter(after for afters in behind.values() for after in afters)
    todo = [state for state in behind if not ahead[state]]
    gone = 0
    while todo:
        state = todo.pop()
        gone += 1
        for after in behind[state]:
            ahead[after] -= 1
            if not ahead[after]:
                todo.append(after)
    # What is not gone stands in a circle, or behind one.
    return gone < len(behind)


def steps_behind(program, world, state):
    """All states behind a step, which late doings and breaks can come ahead of."""
    seen, todo, found = {state}, [state], []
    while todo:
        for more, after in moves(program, world, todo.pop()):
            if more:
                found.append(after)
            elif after not in seen:
                seen.add(after)
                todo.append(after)
    return found
