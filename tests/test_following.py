"""Tests of answerparts/papers.py: point 16, what follows from a row. following.py says it a second time."""

import unittest

import following
from draws import Draws, drawn_program, drawn_world
from answerparts.errors import IsPossible
from answerparts.papers import holds, paper
from answerparts.programs import Program
from answerparts.reaching import results
from answerparts.worlds import World

EVERY_RESULT = [(count, word) for count in (0, 1, 2) for word in (None, "done", "failed")]
SEND_A, KEYED_A = ("send", "a", "a", "a", ()), ("keyed", "a", "a", "a", ())
SEND, KEYED, LOOK = ("send", "a", "b", "c", ()), ("keyed", "a", "b", "c", ()), ("look", "a", "b", "c", ())
IMPOSSIBLE = (0, "failed")


def of(*block, kept=()):
    return Program(("a", "b", "c"), block, kept)


def late(mode, **numbers):
    return World(mode, **{"fails": 0, "late": True, **numbers})


def ends(program, world, left=None, watched=None):
    """Of the rows at the end, with this left, the others beside this watched item, or pairs of others and item."""
    rows = [row for row in paper(program, world, IMPOSSIBLE) if not row[0] and left in (None, row[2])]
    if watched is None:
        return [row[3:] for row in rows]
    return [row[3] for row in rows if row[4] == watched]


def all_of(*shadows):
    """All sets of some of the ascending shadows, none of them included, ascending."""
    found = [()]
    for shadow in shadows[::-1]:
        found = [()] + [(shadow,) + some for some in found] + found[1:]
    return found


class Looks(unittest.TestCase):
    def test_a_shadow_pending_of_a_send(self):
        found = ends(of(SEND_A, LOOK), late("whole", lost=1), (0, 0, 0), ("c", 0, False, 1, False, None))
        self.assertEqual(found, all_of(("b", 1, ()), ("c", 0, ("send",))))

    def test_a_shadow_pending_of_a_keyed(self):
        found = ends(of(KEYED_A, LOOK), late("whole", lost=1), (0, 0, 0), ("c", 0, False, 0, True, None))
        self.assertEqual(found, all_of(("b", 2, ()), ("c", 0, ("keyed",))))

    def test_a_shadow_pending_of_both(self):
        found = ends(of(SEND_A, KEYED_A, LOOK), late("whole", lost=2), (0, 0, 0), ("c", 0, False, 1, True, None))
        self.assertEqual(found, all_of(("b", 1, ("keyed",)), ("b", 2, ()), ("c", 0, ("keyed", "send"))))

    def test_the_watched_item_is_done_or_not(self):
        program, world = of(SEND_A, LOOK), late("each", lost=1)
        found = {watched for _, watched in ends(program, world, (0, 0, 0))}
        self.assertEqual(found, {
            ("b", 1, False, 0, False, None), ("c", 0, False, 1, False, None), ("c", 1, False, 0, False, None),
            # The look itself was lost.
            ("a", 1, False, 0, False, None),
        })

    def test_done_shadows_stay_as_they_are(self):
        program = of(SEND_A, KEYED_A, LOOK)
        watched = ("b", 1, True, 1, False, None)
        # Whoever was done by the first ask can still be pending of the second one, or be known.
        found = ends(program, World("each", lost=2, fails=0, late=True), (0, 0, 0), watched)
        states = {shadow for others in found for shadow in others}
        self.assertEqual(states, {("b", 1, ("keyed",)), ("b", 2, ()), ("c", 0, ("keyed", "send"))})

    def test_a_lost_look_changes_no_item(self):
        found = ends(of(SEND_A, LOOK), late("whole", lost=2), (0, 0, 0), ("a", 0, False, 1, False, None))
        self.assertEqual(found, all_of(("a", 0, ("send",))))


class KeyedAsks(unittest.TestCase):
    def test_items_that_fail_together_and_one_that_is_known_late(self):
        program, world = of(KEYED_A, KEYED), late("whole", lost=1, fails=1)
        failed, known = ("c", 0, ("keyed",)), ("b", 2, ())
        watched = ("c", 0, False, 0, True, None)
        self.assertEqual(ends(program, world, (0, 0, 0), watched), all_of(known, failed))
        self.assertEqual(ends(program, world, (0, 0, 1), watched), [])
        # The watched item was done late: then one of the others must have failed.
        watched = ("b", 1, True, 0, False, None)
        self.assertEqual(ends(program, world, (0, 0, 0), watched), [(known, failed), (failed,)])
        self.assertEqual(ends(program, world, (0, 0, 1), watched), [(), (known,)])

    def test_none_fails_where_none_can(self):
        found = ends(of(KEYED_A, KEYED), late("whole", lost=1), (0, 0, 0))
        # The second ask can be the lost one.
        self.assertEqual({watched[0] for _, watched in found}, {"a", "b"})
        self.assertEqual({others for others, watched in found if watched[0] == "b"}, {(), (("b", 2, ()),)})

    def test_failed_ones_that_were_done_by_a_send(self):
        program, world = of(SEND_A, KEYED_A, KEYED), World("whole", lost=1, fails=1, late=True)
        # Here the keyed ask was lost: it is pending of it, but was done.
        watched = ("c", 1, False, 0, True, None)
        self.assertEqual(ends(program, world, (0, 0, 0), watched), all_of(("b", 2, ()), ("c", 1, ("keyed",))))

    def test_known_ones_do_not_share_what_becomes_of_the_others(self):
        program = of(("part", "a", "b"), ("keyed", "b", "a", "a", ()), KEYED)
        found = ends(program, World("whole", fails=1), (0, 0, 0))
        failed, known = ("c", 0, False, 0, False, None), ("b", 1, True, 0, False, None)
        self.assertEqual([others for others, watched in found if watched == failed], [
            (), (("b", 2, ()),), (("b", 2, ()), ("c", 0, ())), (("c", 0, ()),),
        ])
        # Where no other one failed here, the first ask did.
        self.assertEqual([others for others, watched in found if watched == known], [
            (), (("b", 2, ()),), (("b", 2, ()), ("c", 0, ())), (("c", 0, ()),),
        ])
        found = ends(program, World("whole", fails=1), (0, 0, 1))
        self.assertEqual([others for others, watched in found if watched == known], [(), (("b", 2, ()),)])

    def test_in_the_mode_each_some_fail(self):
        found = ends(of(KEYED_A, KEYED), late("each", lost=1, fails=1), (0, 0, 0), ("c", 0, False, 0, True, None))
        self.assertEqual(found, all_of(("b", 2, ()), ("c", 0, ("keyed",))))

    def test_a_send_treats_known_ones_like_others(self):
        program = of(("part", "a", "b"), ("keyed", "b", "a", "a", ()), SEND)
        pairs = ends(program, World("whole", fails=1))
        found = [others for others, watched in pairs if len(others) == 2 and watched[:3] == ("c", 0, False)]
        self.assertEqual(found, [(("c", 0, ()), ("c", 2, ()))])
        self.assertIn(("b", 2, True, 0, False, None), [watched for _, watched in pairs])

    def test_a_lost_one_leaves_known_ones_as_they_are(self):
        program = of(KEYED_A, KEYED_A)
        found = ends(program, late("whole", lost=1), (0, 0, 0), ("a", 1, True, 0, False, None))
        # The first or the second one was lost.
        self.assertEqual(found, [(), (("a", 2, ()),)])


class LateDoings(unittest.TestCase):
    def watched_at_end(self, program, world, left):
        return {watched[:5] for others, watched in ends(program, world, left) if others == (("c", 0, ("send",)),)}

    def test_one_two_and_more_lost_sends(self):
        for many, expected in (
            (1, {(0, 1), (1, 0)}),
            (2, {(0, 2), (1, 1), (2, 0)}),
            # 2 stands for more: each late doing leaves one less.
            (3, {(0, 2), (1, 1), (2, 0), (1, 2), (2, 1)}),
        ):
            program = of(*(SEND_A,) * many, ("move", "a", "c"))
            found = self.watched_at_end(program, late("whole", lost=many), (0, 0, 0))
            self.assertEqual(found, {("c", count, False, sends, False) for count, sends in expected}, many)

    def test_three_lost_sends_of_which_none_was_done_ahead_of_a_look(self):
        program = of(SEND_A, SEND_A, SEND_A, LOOK)
        found = self.watched_at_end(program, late("whole", lost=3), (0, 0, 0))
        in_c = {row for row in found if row[0] == "c"}
        self.assertEqual(in_c, {("c", 0, False, 2, False), ("c", 1, False, 1, False), ("c", 2, False, 0, False)})

    def test_a_count_stays_at_2(self):
        program = of(*(SEND_A,) * 5)
        found = {watched[1:4] for _, watched in ends(program, late("each", lost=None, fails=None))}
        self.assertEqual(found, {(count, False, sends) for count in (0, 1, 2) for sends in (0, 1, 2)})

    def test_lost_keyed_asks_do_it_once(self):
        program = of(KEYED_A, KEYED_A, KEYED_A)
        found = {watched[1:5] for _, watched in ends(program, late("each", lost=3), (0, 0, 0))}
        self.assertEqual(found, {(0, False, 0, True), (1, True, 0, False)})

    def test_a_late_keyed_of_what_was_done(self):
        found = {watched[1:5] for _, watched in ends(of(SEND_A, KEYED_A), late("each", lost=2), (0, 0, 0))}
        self.assertEqual(found, {
            (0, False, 1, True), (1, False, 0, True), (1, True, 1, False), (2, True, 0, False),
        })

    def test_behind_the_end_and_nothing_else_there(self):
        rows = paper(of(SEND_A), late("whole", lost=1, breaks=1), IMPOSSIBLE)
        self.assertIn(((), (), (0, 1, 0), (), ("a", 0, False, 1, False, None)), rows)
        self.assertIn(((), (), (0, 1, 0), (), ("a", 1, False, 0, False, None)), rows)
        # If the program broke off there, it would begin anew with a lost answer.
        self.assertEqual([row for row in rows if row[0] and row[2][0] == 0], [])

    def test_told_items_too(self):
        program = of(SEND_A, ("tell", "a", "done"))
        found = {watched for _, watched in ends(program, late("whole", lost=1), (0, 0, 0))}
        self.assertEqual(found, {(None, 0, False, 1, False, "done"), (None, 1, False, 0, False, "done")})
        shadows = {others for others, _ in ends(program, late("whole", lost=1), (0, 0, 0))}
        self.assertEqual(shadows, {(), ((None, 0, ("send",)),), ((None, 1, ()),)})

    def test_others_are_not_done_late(self):
        rows = paper(of(SEND_A, ("move", "a", "b")), late("whole", lost=1), IMPOSSIBLE)
        self.assertEqual({row[3] for row in rows if row[2] == (0, 0, 0) and row[4][3] == 1}, {
            (), (("a", 0, ("send",)),), (("b", 0, ("send",)),),
        })


class States(unittest.TestCase):
    def states(self, *block, **numbers):
        rows = paper(of(*block), late("each", **numbers), IMPOSSIBLE)
        return {shadow[1:] for row in rows for shadow in row[3] if not row[0]}

    def test_a_send_in_each_state(self):
        self.assertEqual(self.states(SEND_A, lost=1), {(0, ("send",)), (1, ())})
        self.assertEqual(self.states(SEND_A, SEND_A, lost=2), {(0, ("send",)), (1, ())})
        self.assertEqual(self.states(KEYED_A, SEND_A), {(2, ())})
        self.assertEqual(self.states(KEYED_A, SEND_A, lost=1), {(1, ("keyed",)), (2, ())})
        self.assertEqual(self.states(KEYED_A, SEND_A, lost=2), {
            (0, ("keyed", "send")), (1, ("keyed",)), (2, ()),
        })

    def test_a_keyed_in_each_state(self):
        self.assertEqual(self.states(KEYED_A, lost=1), {(0, ("keyed",)), (2, ())})
        self.assertEqual(self.states(SEND_A, KEYED_A), {(2, ())})
        self.assertEqual(self.states(SEND_A, KEYED_A, lost=2), {(0, ("keyed", "send")), (1, ("keyed",)), (2, ())})
        self.assertEqual(self.states(KEYED_A, KEYED_A, lost=2), {(0, ("keyed",)), (2, ())})

    def test_without_late_nothing_is_pending(self):
        rows = paper(of(KEYED_A, SEND_A), World(lost=None), IMPOSSIBLE)
        self.assertEqual({shadow[2] for row in rows for shadow in row[3]}, {()})
        self.assertEqual({row[4][3:5] for row in rows}, {(0, False)})


class Failures(unittest.TestCase):
    def test_an_ask_that_can_fail_or_not_with_the_same_items(self):
        for mode in ("each", "whole"):
            program = of(("part", "a", "b"), SEND_A, ("send", "a", "c", "c", ()))
            rows = paper(program, World(mode, fails=1), IMPOSSIBLE)
            for fails in (0, 1):
                self.assertIn(((), (), (0, 0, fails), (("c", 1, ()),), ("b", 0, False, 0, False, None)), rows)
            rows = paper(program, World(mode, fails=0), IMPOSSIBLE)
            self.assertIn(((), (), (0, 0, 0), (("c", 1, ()),), ("b", 0, False, 0, False, None)), rows)

    def test_a_lost_ask_has_no_failures(self):
        rows = paper(of(SEND), World(lost=1, fails=1), IMPOSSIBLE)
        self.assertEqual({row[2] for row in rows if row[4][0] == "a"}, {(1, 0, 1), (0, 0, 1)})

    def test_known_ones_do_not_fail(self):
        rows = paper(of(KEYED_A, KEYED), World(fails=1), (2, "done"))
        found = {row[2:] for row in rows if not row[0] and row[4][0] == "b" and len(row[3]) == 0}
        # It failed in the first ask, or in none.
        known = ("b", 1, True, 0, False, None)
        self.assertEqual(found, {((0, 0, 0), (), known), ((0, 0, 1), (), known)})
        self.assertEqual({row[3] for row in rows if row[2] == (0, 0, 1) and row[4] == known}, {(), (("b", 2, ()),)})


def drawn_rows(seeds, most):
    """Drawn programs and worlds with all of their rows, if these are not too many."""
    for seed in seeds:
        draws = Draws(seed)
        program, world = drawn_program(draws), drawn_world(draws)
        try:
            yield seed, program, world, following.all_rows(program, world, most)
        except following.TooMany:
            pass


class Drawn(unittest.TestCase):
    def test_papers_are_those_of_the_second_rules(self):
        compared = 0
        for seed, program, world, rows in drawn_rows(range(700000, 700500), 1500):
            possible = following.results_of(rows)
            self.assertEqual(results(program, world), possible, (seed, program.block, vars(world)))
            impossible = [result for result in EVERY_RESULT if result not in possible]
            for result in possible[:1]:
                with self.assertRaises(IsPossible):
                    paper(program, world, result)
            for result in impossible[-1:]:
                self.assertEqual(paper(program, world, result), rows, (seed, program.block, vars(world)))
                compared += len(rows) > 20
        self.assertGreater(compared, 200)

    def test_papers_ascend_and_have_no_row_twice(self):
        for seed, program, world, _ in drawn_rows(range(701000, 701150), 1500):
            for result in EVERY_RESULT[-1:]:
                if result not in results(program, world):
                    orders = [following.row_order(row) for row in paper(program, world, result)]
                    self.assertTrue(all(one < two for one, two in zip(orders, orders[1:])), seed)


def drawn_shadow(draws, lists):
    state = draws.below(3)
    helpful = (("keyed", "send"), ("keyed",), ())[state]
    return (draws.one_of((None, *lists)), state, draws.some_of(helpful))


def drawn_row(draws, program, world):
    """Some row, whether a run can stand in it or not."""
    lists = program.lists
    path = draws.one_of([(), *program.paths()])
    around = [program[path[:length]] for length in range(1, len(path), 2)]
    numbers = [statement[1] for statement in around if statement[0] == "times"]
    if 0 in numbers:
        return drawn_row(draws, program, world)
    rounds = tuple(1 + draws.below(number) for number in numbers)
    left = tuple(None if bound is None else draws.below(bound + 1) for bound in (world.lost, world.breaks, world.fails))
    others = following.ordered(drawn_shadow(draws, lists) for _ in range(draws.below(3)))
    name, count = draws.one_of((None, *lists)), draws.below(3)
    known = count > 0 and draws.below(3) == 0
    keyed = not known and draws.below(3) == 0
    word = None if name else draws.one_of(("done", "failed"))
    return (path, rounds, left, others, (name, count, known, draws.below(3), keyed, word))


class OtherRows(unittest.TestCase):
    def test_what_follows_from_any_row(self):
        """Rows that no run reaches are closed with all that follows from them, and not without one of these."""
        closed = 0
        for seed, program, world, rows in drawn_rows(range(702000, 702400), 300):
            draws = Draws(seed)
            start = drawn_row(draws, program, world)
            todo, found = [start], {start}
            while todo and len(found) < 400:
                new = following.follow(program, world, todo.pop()) - found
                found |= new
                todo += new
            both = tuple(found | set(rows))
            impossible = [result for result in EVERY_RESULT if result not in following.results_of(both)]
            if todo or not impossible:
                continue
            closed += 1
            about = (seed, program.block, program.kept, vars(world), start)
            self.assertIs(holds(program, world, impossible[0], both), True, about)
            for result in following.results_of(both):
                self.assertIs(holds(program, world, result, both), False, about)
            for missing in following.follow(program, world, start) - {start}:
                rest = tuple(row for row in both if row != missing)
                self.assertIs(holds(program, world, impossible[0], rest), False, (about, missing))
        self.assertGreater(closed, 200)


if __name__ == "__main__":
    unittest.main()
