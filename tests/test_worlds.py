"""Tests of answerparts/worlds.py: point 4, and point 1 where it is about worlds."""

import itertools
import unittest
from unittest import mock

from answerparts.errors import InvalidWorld, WorldError
from answerparts.programs import Program
from answerparts.worlds import World

NAMES = ("mode", "lost", "breaks", "fails", "late")
NUMBERS = (0, 1, 2, 3, None)
NUMBER_NAMES = ("lost", "breaks", "fails")


def values(world):
    return tuple(getattr(world, name) for name in NAMES)


def height(number):
    """Place a number in the order in which None is the greatest."""
    return NUMBERS.index(number)


def some_worlds(modes=("each", "whole"), numbers=(0, 2, None)):
    rows = itertools.product(modes, numbers, numbers, numbers, (False, True))
    return [
        World(mode, lost=lost, breaks=breaks, fails=fails, late=late)
        for mode, lost, breaks, fails, late in rows
    ]


class Awkward:
    """Says that it is equal to everything, and can't be used for anything else."""

    __hash__ = None

    def __eq__(self, other):
        return True

    def __bool__(self):
        raise RuntimeError("asked for its truth")


OTHER_KINDS = (
    "0", "", b"each", 0.0, 1.0, 1.5, float("nan"), 2j, (), (1,), [], [1], {}, {1}, object(), int, len,
    NotImplemented, Ellipsis, Awkward(), mock.ANY, mock.Mock(), mock.Mock(spec=int), mock.Mock(spec=str),
)


class Creation(unittest.TestCase):
    def test_the_world_without_arguments(self):
        self.assertEqual(values(World()), ("each", 0, 0, None, False))

    def test_the_class_is_defined_in_its_file(self):
        self.assertEqual(World.__module__, "answerparts.worlds")
        for name in NAMES + ("__eq__", "__or__", "is_milder"):
            self.assertIn(name, vars(World))

    def test_each_argument_is_a_property(self):
        world = World("whole", lost=1, breaks=2, fails=3, late=True)
        self.assertEqual(values(world), ("whole", 1, 2, 3, True))
        for name in NAMES:
            with self.subTest(name=name), self.assertRaises(AttributeError):
                setattr(world, name, getattr(world, name))
        self.assertEqual(values(world), ("whole", 1, 2, 3, True))

    def test_the_mode_can_be_given_by_its_name(self):
        self.assertEqual(values(World(mode="whole")), ("whole", 0, 0, None, False))
        self.assertEqual(values(World(mode="each")), ("each", 0, 0, None, False))

    def test_all_but_the_mode_are_given_by_keyword(self):
        with self.assertRaises(TypeError):
            World("each", 0)

    def test_each_number_from_0_to_3_or_none(self):
        for name, number in itertools.product(NUMBER_NAMES, NUMBERS):
            with self.subTest(name=name, number=number):
                world = World(**{name: number})
                self.assertEqual(getattr(world, name), number)
                expected = dict(zip(NAMES, values(World())), **{name: number})
                self.assertEqual(values(world), tuple(expected.values()))

    def test_late_is_true_or_false(self):
        for late in (True, False):
            self.assertIs(World(late=late).late, late)


class WrongArguments(unittest.TestCase):
    def refused(self, **arguments):
        with self.subTest(arguments=str(arguments)), self.assertRaises(InvalidWorld):
            World(**arguments)

    def test_numbers_beyond_the_edges(self):
        for name, number in itertools.product(NUMBER_NAMES, (-1, 4, -4, 100, 10 ** 30, -10 ** 30)):
            self.refused(**{name: number})

    def test_booleans_are_no_numbers(self):
        for name, value in itertools.product(NUMBER_NAMES, (True, False)):
            self.refused(**{name: value})

    def test_numbers_of_other_kinds(self):
        for name, value in itertools.product(NUMBER_NAMES, OTHER_KINDS + ("each",)):
            self.refused(**{name: value})

    def test_other_modes(self):
        for mode in OTHER_KINDS + (None, True, False, 0, 1, "Each", "each ", "eac", "wholes", "every"):
            self.refused(mode=mode)

    def test_modes_in_other_kinds(self):
        for mode in (("each",), ["whole"], {"each"}, b"whole", ("each", "whole")):
            self.refused(mode=mode)

    def test_late_of_other_kinds(self):
        for late in OTHER_KINDS + (None, 0, 1, "True", "each", mock.Mock(spec=bool)):
            self.refused(late=late)

    def test_one_wrong_argument_beside_right_ones(self):
        self.refused(mode="whole", lost=1, breaks=1, fails=4, late=True)
        self.refused(mode="all", lost=1, breaks=1, fails=1, late=True)
        self.refused(mode="whole", lost=1, breaks=1, fails=1, late=1)


class Equality(unittest.TestCase):
    def test_equal_worlds(self):
        for one, other in zip(some_worlds(), some_worlds()):
            self.assertTrue(one == other)
            self.assertFalse(one != other)

    def test_worlds_that_differ(self):
        for one, other in itertools.combinations(some_worlds(), 2):
            self.assertFalse(one == other)
            self.assertTrue(one != other)

    def test_none_is_not_zero(self):
        for name in NUMBER_NAMES:
            self.assertNotEqual(World(**{name: None}), World(**{name: 0}))

    def test_values_of_other_kinds(self):
        world = World()
        others = (None, 0, True, "each", values(world), list(values(world)), Program(("a",), ()), object, World)
        for other in others:
            with self.subTest(other=other):
                self.assertIs(world == other, False)
                self.assertIs(other == world, False)
                self.assertIs(world != other, True)
        self.assertIs(world == Awkward(), False)


class Milder(unittest.TestCase):
    def test_each_world_is_milder_than_itself(self):
        for world in some_worlds():
            self.assertIs(world.is_milder(world), True)

    def test_pairs_of_numbers(self):
        for name, one, other in itertools.product(NUMBER_NAMES, NUMBERS, NUMBERS):
            with self.subTest(name=name, one=one, other=other):
                milder = World(**{name: one}).is_milder(World(**{name: other}))
                self.assertIs(milder, height(one) <= height(other))

    def test_pairs_of_modes(self):
        worst = {"lost": None, "breaks": None, "fails": None, "late": True}
        for one, other in (("each", "whole"), ("whole", "each")):
            self.assertIs(World(one, fails=0).is_milder(World(other, **worst)), False)
        self.assertIs(World("whole", fails=0).is_milder(World("whole", **worst)), True)

    def test_pairs_of_late(self):
        for one, other in itertools.product((False, True), repeat=2):
            milder = World(late=one).is_milder(World(late=other))
            self.assertIs(milder, other or not one)

    def test_all_pairs(self):
        for one, other in itertools.product(some_worlds(), repeat=2):
            expected = one.mode == other.mode and one.late <= other.late and all(
                height(getattr(one, name)) <= height(getattr(other, name)) for name in NUMBER_NAMES
            )
            self.assertIs(one.is_milder(other), expected)


class Joined(unittest.TestCase):
    def test_the_greater_of_each(self):
        one = World("whole", lost=1, breaks=None, fails=2)
        other = World("whole", lost=3, breaks=3, fails=0, late=True)
        self.assertEqual(values(one | other), ("whole", 3, None, 2, True))
        self.assertEqual(values(other | one), ("whole", 3, None, 2, True))

    def test_pairs_of_numbers(self):
        for name, one, other in itertools.product(NUMBER_NAMES, NUMBERS, NUMBERS):
            with self.subTest(name=name, one=one, other=other):
                joined = World(**{name: one}) | World(**{name: other})
                self.assertEqual(joined, World(**{name: max(one, other, key=height)}))

    def test_the_mildest_of_all_that_both_are_milder_than(self):
        for mode in ("each", "whole"):
            worlds = some_worlds((mode,), (1, None))
            for one, other in itertools.product(worlds, repeat=2):
                joined = one | other
                above = [world for world in worlds if one.is_milder(world) and other.is_milder(world)]
                self.assertIn(joined, above)
                self.assertTrue(all(joined.is_milder(world) for world in above))

    def test_modes_that_differ(self):
        one, other = World("each", lost=1), World("whole", lost=1)
        for left, right in ((one, other), (other, one)):
            with self.assertRaises(WorldError):
                left | right
        self.assertEqual(values(one), ("each", 1, 0, None, False))
        self.assertEqual(values(other), ("whole", 1, 0, None, False))

    def test_the_worlds_are_as_they_were(self):
        one, other = World(lost=1, fails=0), World(breaks=None, late=True, fails=2)
        for _ in range(2):
            self.assertEqual(values(one | other), ("each", 1, None, 2, True))
            self.assertEqual(values(one), ("each", 1, 0, 0, False))
            self.assertEqual(values(other), ("each", 0, None, 2, True))

    def test_in_place_makes_another_world(self):
        world = before = World(lost=1)
        world |= World(breaks=1)
        self.assertEqual(values(world), ("each", 1, 1, None, False))
        self.assertEqual(values(before), ("each", 1, 0, None, False))


if __name__ == "__main__":
    unittest.main()
