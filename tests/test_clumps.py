"""Points 91, 92 and 94, the clumps of 9, and points 3 to 5 of clumps."""

import random
import unittest
from fractions import Fraction

from knockwright.clumps import clumps_at, stuck_run
from knockwright.errors import NoMoment
from knockwright.knocks import meet_of, might, mirrored, push
from tests.plain_clumps import plain_stuck
from tests.samples import (
    BELOW_NOUGHT, LONG, LONGER, THREE, body, fraction_by_chance, free, kinds, pair, row_of, together, unchanged,
    world_by_chance, world_of, worlds_by_chance,
)

HALF = Fraction(1, 2)


def moments_around(world):
    """0, and ahead of, at and behind each moment at which a clump is made."""
    made = sorted({free(one[0]) for one in stuck_run(world)})
    edges = [Fraction(0)] + made + [made[-1] + 9 if made else Fraction(9)]
    middles = [(edge + later) / 2 for edge, later in zip(edges, edges[1:])]
    return [pair(moment) for moment in sorted(edges + middles)]


def speeds_and_weights(clumps):
    """The clumps as bodies, for push and might."""
    return [(place, speed, weight) for first, last, place, speed, weight in clumps]


class ByHand(unittest.TestCase):
    def check(self, world, run, clumps):
        """The run, and the clumps for each of some moments."""
        self.assertEqual(kinds(stuck_run(world)), kinds(run))
        self.assertEqual(plain_stuck(world)[0], run)
        for moment, told in clumps.items():
            self.assertEqual(kinds(clumps_at(world, moment)), kinds(told))

    def test_one_body(self):
        self.check([body(3, 2, 7)], [], {
            (0, 1): [(0, 0, (3, 1), (2, 1), 7)], (1, 2): [(0, 0, (4, 1), (2, 1), 7)],
        })

    def test_two_that_meet(self):
        world = world_of((0, 1, 2), (5, HALF - 1, 1))
        self.check(world, [((10, 3), (10, 3), 0, 1)], {
            (0, 1): [(0, 0, (0, 1), (1, 1), 2), (1, 1, (5, 1), (-1, 2), 1)],
            (3, 1): [(0, 0, (3, 1), (1, 1), 2), (1, 1, (7, 2), (-1, 2), 1)],
            (10, 3): [(0, 1, (10, 3), (1, 2), 3)],
            (13, 3): [(0, 1, (23, 6), (1, 2), 3)],
        })

    def test_two_that_never_meet(self):
        for speeds in [(0, 0), (1, 1), (-1, 1), (0, LONG)]:
            world = world_of((0, speeds[0], 5), (1, speeds[1], 6))
            self.check(world, [], {(0, 1): [(k, k) + one for k, one in enumerate(world)]})

    def test_one_behind_the_other(self):
        world = world_of((0, 2), (2, 0), (6, 0, 2))
        run = [((1, 1), (2, 1), 0, 1), ((5, 1), (6, 1), 0, 2)]
        self.check(world, run, {
            (1, 1): [(0, 1, (2, 1), (1, 1), 2), (2, 2, (6, 1), (0, 1), 2)],
            (5, 1): [(0, 2, (6, 1), (1, 2), 4)],
            (7, 1): [(0, 2, (7, 1), (1, 2), 4)],
        })

    def test_three_and_more_at_once(self):
        for count in (3, 4, 5):
            world = together(7, 2, [3, 1, 0, -1, -5][:count])
            run = stuck_run(world)
            self.assertEqual(kinds(run), kinds([((2, 1), (7, 1), 0, count - 1)]))
            speed = free(push(world)) / sum(one[2] for one in world)
            weight = sum(one[2] for one in world)
            self.assertEqual(clumps_at(world, (2, 1)), [(0, count - 1, (7, 1), pair(speed), weight)])

    def test_twelve_at_once(self):
        world = together(0, 1, range(11, -1, -1), [1000] * 12)
        self.check(world, [((1, 1), (0, 1), 0, 11)], {(1, 1): [(0, 11, (0, 1), (11, 2), 12000)]})

    def test_two_clumps_made_at_one_moment(self):
        world = together(40, 3, [1, -1, -2]) + together(80, 3, [2, 1])
        world = together(-9, 3, [4, 0]) + world
        run = [((3, 1), (-9, 1), 0, 1), ((3, 1), (40, 1), 2, 4), ((3, 1), (80, 1), 5, 6)]
        self.assertEqual(stuck_run(world)[:3], run)
        self.assertEqual(stuck_run(world), plain_stuck(world)[0])
        self.assertEqual([one[:2] for one in clumps_at(world, (3, 1))], [(0, 1), (2, 4), (5, 6)])

    def test_a_clump_that_is_met_by_a_clump(self):
        world = world_of((0, 3), (2, 1), (18, -1), (20, -3))
        run = [((1, 1), (3, 1), 0, 1), ((1, 1), (17, 1), 2, 3), ((9, 2), (10, 1), 0, 3)]
        self.check(world, run, {(9, 2): [(0, 3, (10, 1), (0, 1), 4)], (100, 1): [(0, 3, (10, 1), (0, 1), 4)]})

    def test_two_clumps_and_one_between_them_at_once(self):
        world = world_of((0, 3), (2, 1), (10, 0, 7), (18, -1), (20, -3))
        self.assertEqual(stuck_run(world)[-1], ((9, 2), (10, 1), 0, 4))
        self.assertEqual(len(stuck_run(world)), 3)

    def test_twelve_one_behind_the_other(self):
        world = world_of((0, 1000, 1000), *[(place, 0, 1) for place in range(1, 12)])
        run = stuck_run(world)
        self.assertEqual([one[1:] for one in run], [((place, 1), 0, place) for place in range(1, 12)])
        self.assertEqual(clumps_at(world, run[-1][0]), [(0, 11, (11, 1), pair(Fraction(1000000, 1011)), 1011)])

    def test_row_at_rest(self):
        self.check(row_of(12), [], {(9, 1): [(k, k) + one for k, one in enumerate(row_of(12))]})


class AgainstTheRule(unittest.TestCase):
    def check(self, world):
        with self.subTest(world=world):
            run, last = plain_stuck(world)
            self.assertEqual(kinds(stuck_run(world)), kinds(run))
            for moment in moments_around(world):
                self.assertEqual(kinds(clumps_at(world, moment)), kinds(plain_stuck(world, moment)[1]))
            return run

    def test_by_chance(self):
        crowds, pairs, counts = 0, 0, set()
        for world in worlds_by_chance(91, 6):
            run = self.check(world)
            crowds += len([one for one in run if one[3] - one[2] > 1])
            pairs += len(run) - len({one[0] for one in run})
            counts.add(len(run))
        self.assertGreater(min(crowds, pairs), 20)
        self.assertGreater(max(counts), 8)

    def test_fractions_of_four_hundred_figures(self):
        chance = random.Random(92)
        for count in (2, 5, 12):
            world = world_by_chance(chance, count, 10 ** 400 - 1, 10 ** 400 - 1)
            self.assertEqual(kinds(stuck_run(world)), kinds(plain_stuck(world)[0]))
            moment = pair(abs(fraction_by_chance(chance, 10 ** 400 - 1, 10 ** 400 - 1)))
            self.assertEqual(kinds(clumps_at(world, moment)), kinds(plain_stuck(world, moment)[1]))

    def test_the_first_clump_of_two_is_where_they_meet(self):
        chance = random.Random(93)
        for _ in range(40):
            world = world_by_chance(chance, 2)
            met = meet_of(*world)
            self.assertEqual(stuck_run(world), [] if met is None else [met + (0, 1)])

    def test_moments_far_off(self):
        self.assertEqual(clumps_at(THREE, (LONGER, 1)), plain_stuck(THREE, (LONGER, 1))[1])
        self.assertEqual(clumps_at(THREE, (1, LONGER)), plain_stuck(THREE, (1, LONGER))[1])


class Promises(unittest.TestCase):
    def walks(self, seed):
        for world in worlds_by_chance(seed, 2):
            yield world, [clumps_at(world, moment) for moment in moments_around(world)]

    def test_push_stays_and_might_never_gets_more(self):
        for world, walk in self.walks(94):
            mights = [free(might(world))] + [free(might(speeds_and_weights(clumps))) for clumps in walk]
            self.assertEqual(mights, sorted(mights, reverse=True))
            for clumps in walk:
                self.assertEqual(push(speeds_and_weights(clumps)), push(world))

    def test_might_gets_less_where_a_clump_is_made(self):
        for world in worlds_by_chance(95, 1):
            ahead = free(might(world))
            for moment in sorted({free(one[0]) for one in stuck_run(world)}):
                after = free(might(speeds_and_weights(clumps_at(world, pair(moment)))))
                self.assertLess(after, ahead)
                ahead = after

    def test_what_was_together_stays_together(self):
        for world, walk in self.walks(96):
            for clumps, later in zip(walk, walk[1:]):
                ends = {last for first, last, *rest in clumps}
                self.assertLessEqual({last for first, last, *rest in later}, ends)

    def test_each_body_is_in_one_clump(self):
        for world, walk in self.walks(97):
            for clumps in walk:
                numbers = [k for first, last, *rest in clumps for k in range(first, last + 1)]
                self.assertEqual(numbers, list(range(len(world))))
                for first, last, place, speed, weight in clumps:
                    self.assertEqual(weight, sum(one[2] for one in world[first:last + 1]))
                places = [free(place) for first, last, place, speed, weight in clumps]
                self.assertEqual(places, sorted(set(places)))

    def test_at_last_speeds_rise_or_are_alike(self):
        for world, walk in self.walks(98):
            speeds = [free(speed) for first, last, place, speed, weight in walk[-1]]
            self.assertEqual(speeds, sorted(speeds))

    def test_on_by_two_times_one_behind_the_other(self):
        # Where the clumps are few enough to be bodies, they go on as the bodies would.
        chance = random.Random(99)
        for world in worlds_by_chance(100, 2):
            small = [(place, speed, 1 + weight // 13) for place, speed, weight in world]
            first, second = [abs(fraction_by_chance(chance, 9)) for _ in range(2)]
            clumps = clumps_at(small, pair(first))
            ends = [(one[0], one[1]) for one in clumps]
            later = clumps_at(speeds_and_weights(clumps), pair(second))
            numbered = [(ends[one[0]][0], ends[one[1]][1]) + one[2:] for one in later]
            self.assertEqual(numbered, clumps_at(small, pair(first + second)))

    def test_the_run_is_what_the_clumps_tell(self):
        for world in worlds_by_chance(101, 1):
            for moment, place, first, last in stuck_run(world):
                found = [one for one in clumps_at(world, moment) if one[:2] == (first, last)]
                self.assertEqual([one[2] for one in found], [place])
                ahead = pair(free(moment) * Fraction(999999, 1000000))
                self.assertNotIn((first, last), [one[:2] for one in clumps_at(world, ahead)])

    def test_order(self):
        for world in worlds_by_chance(102, 2):
            keys = [(free(moment), free(place)) for moment, place, first, last in stuck_run(world)]
            self.assertEqual(keys, sorted(set(keys)))

    def test_mirrored(self):
        for world in worlds_by_chance(103, 1):
            top = len(world) - 1
            turned = [(moment, pair(-free(place)), top - last, top - first) for moment, place, first, last in
                      stuck_run(mirrored(world))]
            self.assertEqual(sorted(turned), sorted(stuck_run(world)))


class Refusals(unittest.TestCase):
    def test_moments_below_nought(self):
        for world in (THREE, row_of(1), row_of(12)):
            for moment in BELOW_NOUGHT:
                with self.assertRaises(NoMoment):
                    clumps_at(world, moment)
            self.assertEqual(len(clumps_at(world, (0, 1))), len(world))


class NothingElseChanges(unittest.TestCase):
    WORLDS = [THREE, row_of(1), row_of(12), together(0, 1, [1, 0, -1])]

    def test_what_is_handed_in(self):
        for world in self.WORLDS:
            unchanged(self, stuck_run, world)
            for moment in [(0, 1), (1, 1), (9, 2), (-1, 1)]:
                unchanged(self, clumps_at, world, moment)

    def test_told_lists_may_be_changed(self):
        for world in self.WORLDS:
            handed = list(world)
            for deed in (stuck_run, lambda bodies: clumps_at(bodies, (1, 1)), lambda bodies: clumps_at(bodies, (0, 1))):
                told, again = deed(handed), deed(handed)
                self.assertIsNot(told, again)
                told.append(None)
                told[0] = None
                self.assertEqual(handed, world)
                self.assertEqual(deed(handed), again)


if __name__ == "__main__":
    unittest.main()
