"""Points 61 to 64 and the promise of likes in 8, and points 3 to 5 of likes."""

import random
import unittest
from fractions import Fraction

from knockwright.backs import at
from knockwright.errors import NoBody, NoMoment
from knockwright.likes import crossings, last_crossing, passed, wearer
from tests.plainly import plain_walk
from tests.samples import (
    BELOW_NOUGHT, LONGER, ODD_THINGS, THREE, WHOLE_NUMBERS, alike, body, free, kinds, pair, refused_at, row_of,
    together, unchanged, world_by_chance, world_of, worlds_by_chance,
)

# Three straight goings that come to one place at the moment 2, and one at rest.
CROWDED = alike(together(0, 2, [3, 1, -2]) + world_of((7, 0)), 7)


def goings_of(world, moment):
    """The straight goings at a moment, each with the number of the body that began it, as they stand there."""
    rows = [(free(one[0]) + free(one[1]) * free(moment), free(one[1]), number) for number, one in enumerate(world)]
    return sorted(rows)


def likes_by_chance(seed, rounds):
    for number, world in enumerate(worlds_by_chance(seed, rounds)):
        yield alike(world, 1 + number % 1000)


def passings_of(world):
    """When which two straight goings pass."""
    rows = []
    for right in range(len(world)):
        for left in range(right):
            gain = free(world[left][1]) - free(world[right][1])
            if gain > 0:
                rows.append((free(world[right][0]) - free(world[left][0])) / gain)
    return sorted(rows)


def moments_of(world):
    """Moments at, ahead of, between and behind the passings of a world."""
    stops = [Fraction(0)] + passings_of(world)[:6]
    between = [(one + other) / 2 for one, other in zip(stops, stops[1:])]
    return [pair(moment) for moment in stops + between + [Fraction(1, 7), Fraction(1000)]]


class Passed(unittest.TestCase):
    def test_by_hand(self):
        for moment, rows in [
            ((0, 1), [(0, 1), (1, 0), (3, -1)]),
            ((1, 2), [(Fraction(1, 2), 1), (1, 0), (Fraction(5, 2), -1)]),
            ((1, 1), [(1, 0), (1, 1), (2, -1)]),
            ((3, 2), [(1, 0), (Fraction(3, 2), -1), (Fraction(3, 2), 1)]),
            ((2, 1), [(1, -1), (1, 0), (2, 1)]),
            ((7, 1), [(-4, -1), (1, 0), (7, 1)]),
        ]:
            self.assertEqual(kinds(passed(THREE, moment)), kinds(world_of(*rows)))

    def test_of_one_body(self):
        self.assertEqual(kinds(passed([body(3, -2, 1000)], (5, 2))), kinds([body(-2, -2, 1000)]))

    def test_several_at_one_place_by_their_speeds(self):
        for count in (2, 3, 4, 5):
            speeds = [5, 2, 0, Fraction(-1, 2), -7][:count]
            world = alike(together(Fraction(1, 3), 2, speeds), 4)
            told = [body(Fraction(1, 3), speed, 4) for speed in sorted(speeds)]
            self.assertEqual(kinds(passed(world, (2, 1))), kinds(told))

    def test_crowds_are_let(self):
        self.assertEqual(passed(CROWDED, (1, 1)), alike(world_of((-3, 3), (-1, 1), (2, -2), (7, 0)), 7))
        self.assertEqual(passed(CROWDED, (2, 1)), alike(world_of((0, -2), (0, 1), (0, 3), (7, 0)), 7))
        self.assertEqual(passed(CROWDED, (3, 1)), alike(world_of((-2, -2), (1, 1), (3, 3), (7, 0)), 7))
        self.assertEqual(passed(CROWDED, (20, 1)), alike(world_of((-36, -2), (7, 0), (18, 1), (54, 3)), 7))

    def test_by_chance(self):
        for world in likes_by_chance(62, 6):
            for moment in moments_of(world):
                told = [(pair(place), pair(speed), world[0][2]) for place, speed, number in goings_of(world, moment)]
                self.assertEqual(kinds(passed(world, moment)), kinds(told))

    def test_against_the_run(self):
        seen = 0
        for world in likes_by_chance(63, 6):
            for moment in moments_of(world):
                run, end = plain_walk(world, moment)
                if end[0] == "bodies":
                    self.assertEqual(kinds(passed(world, moment)), kinds(end[1]))
                    self.assertEqual(passed(world, moment), at(world, moment))
                    seen += len(run) > 3
        self.assertGreater(seen, 50)

    def test_fractions_of_many_figures(self):
        chance = random.Random(64)
        world = alike(world_by_chance(chance, 12, 10 ** 399, 10 ** 399))
        for moment in [(1, LONGER), (LONGER, 3), (LONGER, LONGER + 1)]:
            told = [(pair(place), pair(speed), 1) for place, speed, number in goings_of(world, moment)]
            self.assertEqual(passed(world, moment), told)


class Crossings(unittest.TestCase):
    def test_by_hand(self):
        told = [((0, 1), 0), ((99, 100), 0), ((1, 1), 1), ((5, 4), 1), ((3, 2), 2), ((2, 1), 3), ((9, 1), 3)]
        for moment, count in told:
            self.assertEqual(kinds(crossings(THREE, moment)), kinds(count))

    def test_of_one_body_and_of_those_that_never_pass(self):
        for world in (row_of(1), row_of(12), world_of((0, -1), (1, 1))):
            for moment in [(0, 1), (1, 1), (LONGER, 1)]:
                self.assertEqual(kinds(crossings(world, moment)), kinds(0))

    def test_crowds_are_let(self):
        told = [((19, 10), 0), ((2, 1), 3), ((3, 1), 3), ((13, 3), 4), ((8, 1), 4), ((9, 1), 5), ((12, 1), 5)]
        for moment, count in told:
            self.assertEqual(crossings(CROWDED, moment), count)

    def test_by_chance(self):
        for world in likes_by_chance(65, 4):
            times = passings_of(world)
            for moment in moments_of(world):
                told = len([time for time in times if time <= free(moment)])
                self.assertEqual(kinds(crossings(world, moment)), kinds(told))

    def test_as_many_as_meetings(self):
        for world in likes_by_chance(66, 4):
            for moment in moments_of(world):
                run, end = plain_walk(world, moment)
                if end[0] == "bodies":
                    self.assertEqual(crossings(world, moment), len(run))

    def test_it_never_gets_less_and_stays_from_the_last_one_on(self):
        for world in likes_by_chance(67, 2):
            times = sorted([free(moment) for moment in moments_of(world)] + passings_of(world))
            counts = [crossings(world, pair(time)) for time in times]
            self.assertEqual(counts, sorted(counts))
            last = last_crossing(world)
            if last is None:
                self.assertEqual(counts[-1], 0)
            else:
                ended = crossings(world, last)
                self.assertEqual(ended, len(passings_of(world)))
                self.assertEqual(crossings(world, pair(free(last) + 1000)), ended)
                self.assertLess(crossings(world, pair(free(last) * Fraction(999, 1000))), ended)


class LastCrossing(unittest.TestCase):
    def test_by_hand(self):
        self.assertEqual(kinds(last_crossing(THREE)), kinds((2, 1)))
        self.assertEqual(kinds(last_crossing(world_of((0, 1), (1, 0), (3, 0)))), kinds((3, 1)))
        self.assertEqual(kinds(last_crossing(world_of((0, Fraction(1, 2)), (1, Fraction(1, 3))))), kinds((6, 1)))
        self.assertEqual(kinds(last_crossing(CROWDED)), kinds((9, 1)))

    def test_where_no_two_pass(self):
        apart = [world_of((0, -1), (1, 1)), world_of((0, 5), (1, 5), (2, 7)), [body(0, 9, 9)]]
        for world in apart + [row_of(1), row_of(12)]:
            self.assertIsNone(last_crossing(world))

    def test_by_chance(self):
        for world in likes_by_chance(68, 5):
            told = max(passings_of(world), default=None)
            self.assertEqual(kinds(last_crossing(world)), kinds(None if told is None else pair(told)))


class Wearer(unittest.TestCase):
    def test_by_hand(self):
        for moment, told in [
            ((0, 1), [0, 1, 2]), ((1, 2), [0, 1, 2]), ((1, 1), [1, 0, 2]), ((5, 4), [1, 0, 2]), ((3, 2), [1, 2, 0]),
            ((2, 1), [2, 1, 0]), ((9, 1), [2, 1, 0]),
        ]:
            self.assertEqual(kinds([wearer(THREE, number, moment) for number in range(3)]), kinds(told))

    def test_crowds_are_let(self):
        for moment, told in [((1, 1), [0, 1, 2, 3]), ((2, 1), [2, 1, 0, 3]), ((20, 1), [2, 3, 1, 0])]:
            self.assertEqual([wearer(CROWDED, number, moment) for number in range(4)], told)

    def test_by_chance(self):
        for world in likes_by_chance(69, 3):
            for moment in moments_of(world):
                told = [number for place, speed, number in goings_of(world, moment)]
                self.assertEqual(kinds([wearer(world, number, moment) for number in range(len(world))]), kinds(told))

    def test_it_wears_the_speed_that_it_has(self):
        for world in likes_by_chance(70, 1):
            for moment in moments_of(world):
                bodies = passed(world, moment)
                for number in range(len(world)):
                    self.assertEqual(bodies[number][1], world[wearer(world, number, moment)][1])


class Refusals(unittest.TestCase):
    ALL = [
        (passed, lambda world, number, moment: (world, moment)),
        (crossings, lambda world, number, moment: (world, moment)),
        (wearer, lambda world, number, moment: (world, number, moment)),
        (last_crossing, lambda world, number, moment: (world,)),
    ]

    def each(self, world, number, moment):
        for deed, handed in self.ALL:
            yield deed, handed(world, number, moment)

    def test_unlike_weights(self):
        for count in (2, 3, 12):
            for number in range(1, count):
                world = row_of(count)
                world[number] = body(number, 0, 2)
                for deed, handed in self.each(world, 0, (1, 1)):
                    refused_at(self, number, deed, *handed)

    def test_the_first_unlike_one(self):
        for weights, at_number in [([5, 5, 4, 5, 6], 2), ([1, 2, 2, 2], 1), ([1000, 1000, 1000, 999], 3), ([2, 1], 1)]:
            world = [body(place, -place, weight) for place, weight in enumerate(weights)]
            for deed, handed in self.each(world, 0, (1, 1)):
                refused_at(self, at_number, deed, *handed)

    def test_unlike_weights_go_ahead_of_all_else(self):
        world = world_of((0, 1, 3), (1, 0, 3), (2, 0, 4))
        for moment in BELOW_NOUGHT + [(1, 1)]:
            for number in [0, -1, 3, None, "0", True]:
                for deed, handed in self.each(world, number, moment):
                    refused_at(self, 2, deed, *handed)

    def test_moments_below_nought(self):
        for moment in BELOW_NOUGHT:
            for world in (THREE, CROWDED, row_of(1)):
                for number in [0, -1, 99, None, "0", True]:
                    for deed, handed in self.each(world, number, moment):
                        if deed != last_crossing:
                            self.assertRaises(NoMoment, deed, *handed)

    def test_what_is_no_number_of_a_body(self):
        for world in (THREE, row_of(1), row_of(12), CROWDED):
            outside = [number for number in WHOLE_NUMBERS if not 0 <= number < len(world)]
            for thing in ODD_THINGS + outside + [-1, -len(world), len(world), len(world) + 1, (0, 1), (1, 1), [0]]:
                for moment in [(0, 1), (2, 1)]:
                    with self.subTest(thing=thing):
                        self.assertRaises(NoBody, wearer, world, thing, moment)

    def test_likes_of_any_weight_are_let(self):
        for weight in (1, 2, 1000):
            world = alike(THREE, weight)
            self.assertEqual(passed(world, (2, 1)), alike(passed(THREE, (2, 1)), weight))
            self.assertEqual(crossings(world, (2, 1)), 3)
            self.assertEqual(last_crossing(world), (2, 1))
            self.assertEqual(wearer(world, 0, (2, 1)), 2)


class NothingElseChanges(unittest.TestCase):
    def test_nothing_is_changed(self):
        for world in (THREE, row_of(12), CROWDED, world_of((0, 0, 1), (1, 0, 2))):
            unchanged(self, last_crossing, world)
            for moment in [(0, 1), (2, 1), (-1, 1)]:
                unchanged(self, passed, world, moment)
                unchanged(self, crossings, world, moment)
                for number in (0, 2, True, None, [1]):
                    unchanged(self, wearer, world, number, moment)

    def test_told_lists_may_be_changed(self):
        for moment in [(0, 1), (1, 1), (2, 1)]:
            world = list(THREE)
            told, again = passed(world, moment), passed(world, moment)
            self.assertIsNot(told, world)
            self.assertIsNot(told, again)
            told.clear()
            self.assertEqual(world, THREE)
            self.assertEqual(passed(world, moment), again)


if __name__ == "__main__":
    unittest.main()
