"""Points 51 to 53 and the end of 7, and points 3 to 5 of backs."""

import random
import unittest
from fractions import Fraction

from knockwright.backs import at, back, turned
from knockwright.errors import NoMoment, TooMany
from knockwright.knocks import might, push
from knockwright.lines import Line, run_of
from knockwright.worlds import is_world
from tests.plainly import LONG_MOMENTS, crowd_behind, plain_run, plain_walk
from tests.samples import (
    BELOW_NOUGHT, LONG_RUN, LONGER, THREE, body, free, kinds, pair, refused_crowd, row_of, together, unchanged,
    world_by_chance, world_of, worlds_by_chance,
)

HALF = Fraction(1, 2)


def moments_of(world):
    """Moments ahead of, at, between and behind the first meetings of a world."""
    met = sorted({free(meeting[0]) for meeting in plain_run(world, 6)[0][1]})
    stops = [Fraction(0)] + met
    between = [(one + other) / 2 for one, other in zip(stops, stops[1:])]
    return [pair(moment) for moment in stops + between + [stops[-1] + HALF, Fraction(50)]]


def all_apart(bodies):
    return is_world(bodies)


class At(unittest.TestCase):
    def test_by_hand(self):
        for moment, rows in [
            ((0, 1), [(0, 1), (1, 0), (3, -1)]),
            ((1, 2), [(HALF, 1), (1, 0), (5 * HALF, -1)]),
            ((1, 1), [(1, 0), (1, 1), (2, -1)]),
            ((5, 4), [(1, 0), (Fraction(5, 4), 1), (Fraction(7, 4), -1)]),
            ((3, 2), [(1, 0), (3 * HALF, -1), (3 * HALF, 1)]),
            ((2, 1), [(1, -1), (1, 0), (2, 1)]),
            ((7, 1), [(-4, -1), (1, 0), (7, 1)]),
        ]:
            self.assertEqual(kinds(at(THREE, moment)), kinds(world_of(*rows)))

    def test_of_unlike_weights(self):
        world = world_of((0, 3, 2), (3, 0, 1))
        self.assertEqual(at(world, (1, 3)), world_of((1, 3, 2), (3, 0, 1)))
        self.assertEqual(at(world, (1, 1)), world_of((3, 1, 2), (3, 4, 1)))
        self.assertEqual(at(world, (5, 1)), world_of((7, 1, 2), (19, 4, 1)))

    def test_of_one_body(self):
        self.assertEqual(at([body(1, -2, 9)], (0, 1)), [body(1, -2, 9)])
        self.assertEqual(at([body(1, -2, 9)], (LONGER, 2)), [body(1 - LONGER, -2, 9)])

    def test_against_another_way(self):
        ends = {"bodies": 0, "crowd": 0, "many": 0}
        for world in worlds_by_chance(51, 6):
            for moment in moments_of(world):
                run, end = plain_walk(world, moment)
                ends[end[0]] += 1
                with self.subTest(world=world, moment=moment):
                    if end[0] == "bodies":
                        self.assertEqual(kinds(at(world, moment)), kinds(end[1]))
                    elif end[0] == "crowd":
                        refused_crowd(self, end[1], at, world, moment)
                    else:
                        self.assertRaises(TooMany, at, world, moment)
        self.assertGreater(min(ends.values()), 5, ends)

    def test_just_behind_the_meetings_as_a_line_has_it(self):
        for world in worlds_by_chance(52, 2):
            line = Line(world)
            for _ in range(4):
                self.assertEqual(kinds(at(world, line.time())), kinds(line.bodies()))
                if run_of(world, len({meeting[0] for meeting in line.met()}) + 1)[0] == "crowd":
                    break
                line.step()

    def test_fractions_of_many_figures(self):
        chance = random.Random(53)
        for count in (2, 4, 6):
            world = world_by_chance(chance, count, 10 ** 80, 10 ** 80)
            for moment in moments_of(world) + [(LONGER, LONGER + 1), (LONGER, 2)]:
                run, end = plain_walk(world, moment)
                if end[0] == "bodies":
                    self.assertEqual(at(world, moment), end[1])

    def test_push_and_might_at_any_moment(self):
        for world in (THREE, LONG_RUN, world_by_chance(random.Random(54), 5)):
            for moment in moments_of(world)[:8]:
                bodies = at(world, moment)
                self.assertEqual((push(bodies), might(bodies)), (push(world), might(world)))


class Refusals(unittest.TestCase):
    def test_moments_below_nought(self):
        for moment in BELOW_NOUGHT:
            for world in (THREE, row_of(1), LONG_RUN, together(0, 1, [1, 0, -1])):
                self.assertRaises(NoMoment, at, world, moment)
                self.assertRaises(NoMoment, back, world, moment)

    def test_crowds(self):
        world = together(Fraction(1, 3), 2, [5, 1, -2])
        crowd = ((2, 1), (1, 3), (0, 1, 2))
        self.assertEqual(at(world, (3, 2)), plain_walk(world, (3, 2))[1][1])
        for moment in [(2, 1), (5, 2), (1000, 1), (LONGER, 1)]:
            refused_crowd(self, crowd, at, world, moment)

    def test_the_crowd_at_the_least_place(self):
        two = together(0, 3, [2, 1, 0]) + together(40, 3, [1, 0, -1, -2])
        refused_crowd(self, ((3, 1), (0, 1), (0, 1, 2)), at, two, (3, 1))
        beside = together(-30, 2, [1, -1]) + together(0, 2, [3, 1, -2])
        refused_crowd(self, ((2, 1), (0, 1), (2, 3, 4)), at, beside, (9, 1))

    def test_crowds_behind_other_meetings(self):
        for count in (1, 7, 38, 39):
            world, moment = crowd_behind(count)
            ahead = pair((free(moment) + LONG_MOMENTS[count - 1]) / 2)
            self.assertEqual(at(world, ahead)[:3], plain_walk(LONG_RUN, ahead)[1][1])
            for late in (moment, (5000, 1)):
                refused_crowd(self, (moment, (1000, 1), (3, 4, 5)), at, world, late)

    def test_forty_moments_and_a_forty_first(self):
        behind = pair((LONG_MOMENTS[39] + LONG_MOMENTS[40]) / 2)
        self.assertEqual(at(LONG_RUN, pair(LONG_MOMENTS[39])), run_of(LONG_RUN, 40)[2])
        self.assertEqual(kinds(at(LONG_RUN, behind)), kinds(plain_walk(LONG_RUN, behind)[1][1]))
        for moment in (pair(LONG_MOMENTS[40]), pair(LONG_MOMENTS[41]), (5000, 1)):
            self.assertRaises(TooMany, at, LONG_RUN, moment)
            self.assertRaises(TooMany, back, turned(LONG_RUN), moment)

    def test_a_crowd_that_is_the_forty_first(self):
        world, moment = crowd_behind(40)
        self.assertEqual(at(world, pair(LONG_MOMENTS[39]))[:3], run_of(LONG_RUN, 40)[2])
        for late in (moment, (5000, 1)):
            self.assertRaises(TooMany, at, world, late)
            self.assertRaises(TooMany, back, turned(world), late)

    def test_crowds_back(self):
        # Three that go apart from one place: they were there together, so long ago.
        world = world_of((-4, -2, 3), (-1, -1, 5), (0, 0, 7))
        self.assertEqual(at(world, (9, 1)), world_of((-22, -2, 3), (-10, -1, 5), (0, 0, 7)))
        for first in [together(3, -2, [-2, 0, 5]), together(3, -2, [-1, 4, 5])]:
            self.assertTrue(is_world(first))
            self.assertEqual(back(first, (1, 1)), [body(free(p) - free(v), free(v), w) for p, v, w in first])
            for moment in [(2, 1), (7, 2), (LONGER, 1)]:
                refused_crowd(self, ((2, 1), (3, 1), (0, 1, 2)), back, first, moment)

    def test_crowds_back_behind_other_meetings(self):
        world, moment = crowd_behind(7)
        first = turned(world)
        refused_crowd(self, (moment, (1000, 1), (3, 4, 5)), back, first, (5000, 1))
        refused_crowd(self, (moment, (1000, 1), (3, 4, 5)), back, first, moment)


class Turning(unittest.TestCase):
    def test_by_hand(self):
        world = world_of((-1, 2, 3), (0, 0, 4), (HALF, Fraction(-5, 3), 5))
        told = world_of((-1, -2, 3), (0, 0, 4), (HALF, Fraction(5, 3), 5))
        self.assertEqual(kinds(turned(world)), kinds(told))
        self.assertEqual(kinds(turned(told)), kinds(world))

    def test_two_at_one_place(self):
        for moment in [(1, 1), (3, 2), (2, 1)]:
            bodies = at(THREE, moment)
            self.assertFalse(all_apart(bodies))
            told = turned(bodies)
            self.assertEqual([one[0] for one in told], [one[0] for one in bodies])
            self.assertEqual([free(one[1]) for one in told], [-free(one[1]) for one in bodies])
            self.assertEqual(turned(told), bodies)

    def test_worlds_by_chance(self):
        for world in worlds_by_chance(55, 2):
            told = turned(world)
            self.assertTrue(is_world(told))
            self.assertEqual(kinds(told), kinds([body(free(p), -free(v), w) for p, v, w in world]))
            self.assertEqual(turned(told), world)

    def test_the_told_list_is_a_new_one(self):
        for world in (row_of(1), row_of(12), list(THREE)):
            told, again = turned(world), turned(world)
            self.assertIsNot(told, world)
            self.assertIsNot(told, again)
            told.clear()
            self.assertEqual(turned(world), again)


class Back(unittest.TestCase):
    def test_by_hand(self):
        world = world_of((0, -1), (1, 0), (3, 1))      # THREE at the moment 3
        self.assertEqual(at(THREE, (3, 1)), world)
        for moment, rows in [
            ((0, 1), [(0, -1), (1, 0), (3, 1)]),
            ((1, 2), [(HALF, -1), (1, 0), (5 * HALF, 1)]),
            ((1, 1), [(1, 0), (1, -1), (2, 1)]),                              # just ahead of the meeting at 2
            ((5, 4), [(1, 0), (Fraction(5, 4), -1), (Fraction(7, 4), 1)]),
            ((3, 2), [(1, 0), (3 * HALF, 1), (3 * HALF, -1)]),                # just ahead of that at 3/2
            ((2, 1), [(1, 1), (1, 0), (2, -1)]),                              # just ahead of that at 1
            ((3, 1), [(0, 1), (1, 0), (3, -1)]),
            ((10, 1), [(-7, 1), (1, 0), (10, -1)]),
        ]:
            self.assertEqual(kinds(back(world, moment)), kinds(world_of(*rows)))

    def test_it_is_the_turned_world_turned(self):
        for world in worlds_by_chance(56, 2):
            for moment in moments_of(turned(world)):
                if plain_walk(turned(world), moment)[1][0] == "bodies":
                    told = plain_walk(turned(world), moment)[1][1]
                    self.assertEqual(kinds(back(world, moment)), kinds(turned(told)))

    def test_nothing_is_changed(self):
        for world in (THREE, LONG_RUN, row_of(12), together(0, 1, [1, 0, -1]), turned(together(0, 1, [1, 0, -1]))):
            unchanged(self, turned, world)
            for moment in [(0, 1), (1, 1), (3, 2), (9, 1), (-1, 1)]:
                unchanged(self, at, world, moment)
                unchanged(self, back, world, moment)

    def test_told_lists_may_be_changed(self):
        for deed in (at, back):
            for moment in [(0, 1), (1, 1), (5, 1)]:
                handed = list(THREE)
                told, again = deed(handed, moment), deed(handed, moment)
                self.assertIsNot(told, again)
                self.assertIsNot(told, handed)
                told.clear()
                self.assertEqual(handed, THREE)
                self.assertEqual(deed(handed, moment), again)


class WhatFollows(unittest.TestCase):
    def journeys(self, seed):
        """Worlds and moments up to which there is neither a crowd nor a forty-first moment."""
        for world in worlds_by_chance(seed, 3):
            for moment in moments_of(world):
                run, end = plain_walk(world, moment)
                if end[0] == "bodies":
                    yield world, moment, run, end[1]

    def test_on_and_back(self):
        far = 0
        for world, moment, run, bodies in self.journeys(57):
            if all_apart(bodies):
                self.assertEqual(kinds(back(at(world, moment), moment)), kinds(world))
                far += len(run) > 3
        self.assertGreater(far, 20)

    def test_back_and_on(self):
        far = 0
        for first, moment, run, bodies in self.journeys(58):
            world = turned(first)
            ago = back(world, moment)
            self.assertEqual(ago, turned(bodies))
            if all_apart(ago):
                self.assertEqual(kinds(at(ago, moment)), kinds(world))
                far += len(run) > 3
        self.assertGreater(far, 20)

    def test_two_times_one_behind_the_other(self):
        chance = random.Random(59)
        for world, moment, run, bodies in self.journeys(60):
            first = free(moment) * Fraction(chance.randint(1, 9), 10)
            middle = at(world, pair(first))
            if all_apart(middle):
                self.assertEqual(kinds(at(middle, pair(free(moment) - first))), kinds(bodies))

    def test_the_turned_bodies_have_the_elder_meetings(self):
        for world, moment, run, bodies in self.journeys(61):
            if all_apart(bodies):
                elder = [(free(moment) - free(met[0]), free(met[1]), met[2]) for met in run]
                count = len({met[0] for met in run})
                told = run_of(turned(bodies), count)[1]
                self.assertEqual([(free(met[0]), free(met[1]), met[2]) for met in told], sorted(elder))

    def test_behind_all_meetings_speeds_rise(self):
        seen = 0
        for world in worlds_by_chance(62, 3):
            word, run, bodies, moment = run_of(world, 40)
            if word == "still":
                late = at(world, pair(free(moment) + 1000))
                speeds = [free(one[1]) for one in late]
                self.assertEqual(speeds, sorted(speeds))
                seen += len(run) > 3
        self.assertGreater(seen, 10)

    def test_what_was_told_is_handed_in_again(self):
        bodies = world_by_chance(random.Random(63), 4, 10 ** 20, 10 ** 20)
        late = (1, 10 ** 19)
        first = list(bodies)
        for _ in range(5):
            bodies = at(bodies, late)
        for _ in range(5):
            bodies = back(bodies, late)
        self.assertEqual(bodies, first)


if __name__ == "__main__":
    unittest.main()
