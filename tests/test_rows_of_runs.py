"""Point 16 of answerparts/papers.py: the rows in which runs stand are rows of the paper."""

import collections
import unittest

import second
from draws import Draws, drawn_program, drawn_world
from answerparts.errors import IsPossible
from answerparts.papers import paper
from answerparts.reaching import results

EVERY_RESULT = [(count, word) for count in (0, 1, 2) for word in (None, "done", "failed")]


def rounds_of(machine, path):
    """The rounds that a second machine still has to execute of the "times" statements around its next one."""
    rounds = []
    for length in range(1, len(path), 2):
        around = machine.program[path[:length]]
        if around[0] != "times":
            continue
        last = path[:length] + (0, len(around[2]) - 1)
        # The last statement of each round is still to be executed, but a "while" that is being executed comes again.
        is_within = path[: length + 2] == last and len(path) > length + 2
        is_taken = is_within and machine.program[last][0] != "while"
        rounds.append(machine.todo.count(last) + is_taken)
    return tuple(rounds)


def state_of(machine, item):
    if item in machine.known:
        return 2
    return 1 if machine.counts[item] else 0


def shadow_of(machine, item):
    state = state_of(machine, item)
    helpful = [word for word in ("keyed", "send") if state == 0 or (state == 1 and word == "keyed")]
    pending = tuple(word for word in helpful if machine.pending_of(item, word))
    return (machine.where[item], state, pending)


def row_of(machine, item):
    """The row in which a second machine stands, seen from one of its items."""
    path = machine.todo[0] if machine.todo else ()
    bounds = [(getattr(machine.world, name), machine.used[name]) for name in ("lost", "breaks", "fails")]
    left = tuple(None if bound is None else bound - used for bound, used in bounds)
    others = {shadow_of(machine, other) for other in machine.items if other != item}
    ordered = sorted(others, key=lambda shadow: (shadow[0] is not None, shadow[0] or "", *shadow[1:]))
    sends = min(len(machine.pending_of(item, "send")), 2)
    watched = (
        machine.where[item], min(machine.counts[item], 2), item in machine.known, sends,
        bool(machine.pending_of(item, "keyed")), machine.told[item],
    )
    return (path, rounds_of(machine, path), left, tuple(ordered), watched)


def can_be_late(machine, event, item):
    # One late "send" leaves one pending where 2 stand for more, so a run with more than 2 is another one.
    return event[0] != "late" or (event[1] == item and len(machine.pending_of(item, "send")) <= 2)


def rows_of_run(draws, program, world, items, item, most=25):
    """The rows in which a drawn run stands, seen from the only item that is done late in it."""
    machine = second.Second(program, world, items)
    rows = [row_of(machine, item)]
    for _ in range(most):
        now = [event for event in machine.possible_now() if can_be_late(machine, event, item)]
        if now and (draws.below(3) == 0 or not machine.todo):
            machine.happen(draws.one_of(now))
        elif not machine.todo:
            break
        elif machine.needs_event():
            machine.step(draws.one_of(machine.possible()))
        else:
            machine.step()
        rows.append(row_of(machine, item))
    return rows


def some_paper(program, world):
    """The paper for the first result that is not possible, None if each one is."""
    possible = results(program, world)
    impossible = [result for result in EVERY_RESULT if result not in possible]
    return paper(program, world, impossible[0]) if impossible else None


class RowsOfRuns(unittest.TestCase):
    def test_rows_of_drawn_runs_are_in_the_paper(self):
        seen = collections.Counter()
        for seed in range(900):
            draws = Draws(600000 + seed)
            program, world = drawn_program(draws, 4), drawn_world(draws)
            rows = some_paper(program, world)
            if rows is None:
                continue
            of_paper = set(rows)
            for items in (1, 2, 2, 3, 3):
                for item in range(items):
                    for row in rows_of_run(draws, program, world, items, item):
                        about = (seed, program.block, program.kept, vars(world), items, row)
                        self.assertIn(row, of_paper, about)
                        seen["end" if not row[0] else len(row[1])] += 1
                        seen["others"] += len(row[3]) > 1
                        seen["pending others"] += any(shadow[2] for shadow in row[3])
                        seen["late"] += row[4][3] > 0 or row[4][4]
                        seen[row[4][1], "times"] += 1
        # The draws reach all that there is.
        self.assertGreater(min(seen.values()), 50, seen)
        self.assertEqual(set(seen), {"end", 0, 1, 2, "others", "pending others", "late", *(
            (count, "times") for count in (0, 1, 2)
        )})


if __name__ == "__main__":
    unittest.main()
