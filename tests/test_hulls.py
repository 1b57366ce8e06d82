"""Points 93 and 94, and points 3 to 5 of hulls."""

import random
import unittest
from fractions import Fraction

from knockwright.clumps import clumps_at, stuck_run
from knockwright.errors import NoMoment
from knockwright.hulls import hull_of
from tests.plain_clumps import plain_hull
from tests.samples import (
    BELOW_NOUGHT, LONGER, THREE, body, fraction_by_chance, free, kinds, pair, row_of, together, unchanged,
    world_by_chance, world_of, worlds_by_chance,
)

HALF = Fraction(1, 2)


class ByHand(unittest.TestCase):
    def check(self, world, moment, corners):
        self.assertEqual(kinds(hull_of(world, moment)), kinds(corners))
        self.assertEqual(plain_hull(world, moment), corners)

    def test_one_body(self):
        self.check([body(3, 2, 7)], (0, 1), [(0, (0, 1)), (7, (21, 1))])
        self.check([body(3, 2, 7)], (1, 2), [(0, (0, 1)), (7, (28, 1))])
        self.check([body(0, HALF, 1)], (1, 1), [(0, (0, 1)), (1, (1, 2))])
        self.check([body(0)], (9, 1), [(0, (0, 1)), (1, (0, 1))])

    def test_two(self):
        world = world_of((0, 1, 2), (5, -HALF, 1))
        self.check(world, (0, 1), [(0, (0, 1)), (2, (0, 1)), (3, (5, 1))])
        self.check(world, (3, 1), [(0, (0, 1)), (2, (6, 1)), (3, (19, 2))])
        # Where they meet the three points lie on one straight line; then the middle one lies above it.
        self.check(world, (10, 3), [(0, (0, 1)), (3, (10, 1))])
        self.check(world, (4, 1), [(0, (0, 1)), (3, (11, 1))])

    def test_three_on_one_line(self):
        world = together(7, 2, [3, 1, 0, -1])
        weight = sum(one[2] for one in world)
        self.check(world, (2, 1), [(0, (0, 1)), (weight, (7 * weight, 1))])
        self.check(world_of((-1, 1), (0, 0), (1, -1)), (1, 1), [(0, (0, 1)), (3, (0, 1))])

    def test_a_row_at_rest(self):
        corners = [(k, (k * (k - 1) // 2, 1)) for k in range(13)]
        self.check(row_of(12), (0, 1), corners)
        self.check(row_of(12), (LONGER, 7), corners)

    def test_two_clumps_of_twelve(self):
        world = together(-9, 1, [6, 5, 4, 3, 2, 1], [1] * 6) + together(9, 1, [6, 5, 4, 3, 2, 1], [2] * 6)
        self.check(world, (1, 1), [(0, (0, 1)), (6, (-54, 1)), (18, (54, 1))])


class AgainstTheWords(unittest.TestCase):
    def moments(self, world, chance):
        made = sorted({free(one[0]) for one in stuck_run(world)})
        return [(0, 1)] + [pair(moment) for moment in made + [abs(fraction_by_chance(chance, 9)) for _ in range(3)]]

    def test_by_chance(self):
        chance = random.Random(93)
        for world in worlds_by_chance(94, 3):
            for moment in self.moments(world, chance):
                self.assertEqual(kinds(hull_of(world, moment)), kinds(plain_hull(world, moment)))

    def test_fractions_of_four_hundred_figures(self):
        chance = random.Random(95)
        for count in (2, 12):
            world = world_by_chance(chance, count, 10 ** 400 - 1, 10 ** 400 - 1)
            for moment in [(0, 1), pair(abs(fraction_by_chance(chance, 10 ** 400 - 1, 10 ** 400 - 1)))]:
                self.assertEqual(kinds(hull_of(world, moment)), kinds(plain_hull(world, moment)))

    def test_against_the_clumps(self):
        chance = random.Random(96)
        many = 0
        for world in worlds_by_chance(97, 5):
            weights = [sum(one[2] for one in world[:k]) for k in range(len(world) + 1)]
            for moment in self.moments(world, chance):
                corners, clumps = hull_of(world, moment), clumps_at(world, moment)
                numbers = [weights.index(weight) for weight, height in corners]
                self.assertEqual([(first, last - 1) for first, last in zip(numbers, numbers[1:])],
                                 [clump[:2] for clump in clumps])
                for left, right, clump in zip(corners, corners[1:], clumps):
                    self.assertEqual(right[0] - left[0], clump[4])
                    self.assertEqual((free(right[1]) - free(left[1])) / clump[4], free(clump[2]))
                many += 1 < len(clumps) < len(world)
        self.assertGreater(many, 100)


class Refusals(unittest.TestCase):
    def test_moments_below_nought(self):
        for world in (THREE, row_of(1), row_of(12)):
            for moment in BELOW_NOUGHT:
                with self.assertRaises(NoMoment):
                    hull_of(world, moment)
            self.assertEqual(hull_of(world, (0, 1))[0], (0, (0, 1)))


class NothingElseChanges(unittest.TestCase):
    def test_what_is_handed_in(self):
        for world in (THREE, row_of(1), row_of(12)):
            for moment in [(0, 1), (1, 1), (9, 2), (-1, 1)]:
                unchanged(self, hull_of, world, moment)

    def test_a_told_list_may_be_changed(self):
        told, again = hull_of(THREE, (1, 1)), hull_of(THREE, (1, 1))
        self.assertIsNot(told, again)
        told.clear()
        self.assertEqual(hull_of(THREE, (1, 1)), again)


if __name__ == "__main__":
    unittest.main()
