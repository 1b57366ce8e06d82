"""Points 71 and 72, and points 3 to 5 of walls."""

import random
import unittest
from fractions import Fraction

from knockwright.errors import TooMany
from knockwright.knocks import might, mirrored, push
from knockwright.lines import run_of
from knockwright.walls import walled_run
from tests.plainly import plain_course
from tests.samples import (
    HUNDRED, LONGER, ODD_THINGS, WHOLE_NUMBERS, body, fraction_by_chance, free, kinds, pair, refused_at, together,
    unchanged, world_of,
)

HALF = Fraction(1, 2)
# A light one between the wall and a heavy one that comes: there are many more than forty moments.
LONG_WALLED = world_of((1, 0, 1), (4, -1, 1000))


def walled_by_chance(seed, rounds):
    chance = random.Random(seed)
    for _ in range(rounds):
        for count in range(1, 13):
            places = sorted(chance.sample(range(1, 16), count))
            weight = chance.choice([1, 3, 1000])
            yield [body(place, chance.randint(-2, 1), chance.randint(1, weight)) for place in places]
            places = sorted({abs(fraction_by_chance(chance, 20)) + 1 for _ in range(count)})
            yield [body(place, fraction_by_chance(chance, 9), chance.randint(1, weight)) for place in places]


class OneBody(unittest.TestCase):
    def test_that_comes(self):
        world = [body(3, -2, 7)]
        told = ("still", [((3, 2), (0, 1), -1)], [body(0, 2, 7)], (3, 2))
        for most in (1, 2, 40):
            self.assertEqual(kinds(walled_run(world, most)), kinds(told))
        self.assertEqual(kinds(walled_run(world, 0)), kinds(("more", [], world, (0, 1))))

    def test_that_goes_away_or_is_at_rest(self):
        for world in ([body(3, 2, 7)], [body(3, 0, 7)], [body(Fraction(1, LONGER), 0)]):
            for most in (0, 1, 40):
                self.assertEqual(kinds(walled_run(world, most)), kinds(("still", [], world, (0, 1))))

    def test_with_long_numbers(self):
        world = [body(Fraction(HUNDRED, 3), Fraction(-1, LONGER), 1000)]
        moment = pair(Fraction(HUNDRED * LONGER, 3))
        told = ("still", [(moment, (0, 1), -1)], [body(0, Fraction(1, LONGER), 1000)], moment)
        self.assertEqual(kinds(walled_run(world, 40)), kinds(told))


class Several(unittest.TestCase):
    def check(self, world, most):
        told = walled_run(world, most)
        with self.subTest(world=world, most=most):
            self.assertEqual(kinds(told), kinds(plain_course(world, most, near=0)))
        return told

    def test_two_alike_by_hand(self):
        # The one that came takes the wall's way home: three meetings.
        world = world_of((1, 0), (2, -1))
        told = walled_run(world, 40)
        run = [((1, 1), (1, 1), 0), ((2, 1), (0, 1), -1), ((3, 1), (1, 1), 0)]
        self.assertEqual(kinds(told), kinds(("still", run, world_of((1, 0), (1, 1)), (3, 1))))
        for most in (0, 1, 2):
            part = walled_run(world, most)
            self.assertEqual((part[0], part[1]), ("more", run[:most]))
            self.assertEqual(part[3], ([(0, 1)] + [met[0] for met in run])[most])

    def test_two_unlike_by_hand(self):
        told = walled_run(world_of((1, 0, 1), (2, -1, 3)), 2)
        run = [((1, 1), (1, 1), 0), ((5, 3), (0, 1), -1)]
        bodies = world_of((0, 3 * HALF, 1), (1 - HALF * Fraction(2, 3), -HALF, 3))
        self.assertEqual(kinds(told), kinds(("more", run, bodies, (5, 3))))

    def test_at_the_wall_and_elsewhere_at_one_moment(self):
        world = world_of((2, -1), (5, 1), (9, -1), (20, 1, 3), (24, -1, 2))
        run = [((2, 1), (0, 1), -1), ((2, 1), (7, 1), 1), ((2, 1), (22, 1), 3)]
        told = self.check(world, 1)
        self.assertEqual((told[0], told[1], told[3]), ("more", run, (2, 1)))
        self.assertEqual(told[2][0], body(0, 1))

    def test_two_that_never_come(self):
        world = world_of((1, 0, 5), (2, 1, 7))
        self.assertEqual(walled_run(world, 40), ("still", [], world, (0, 1)))

    def test_many_by_chance(self):
        words = {"still": 0, "more": 0, "crowd": 0}
        ends = {-1: 0, 10: 0}
        for world in walled_by_chance(71, 12):
            for most in (0, 1, 2, 5, 40):
                told = self.check(world, most)
                words[told[0]] += 1
                for number in ends:
                    ends[number] += [met[2] for met in told[1]].count(number)
        self.assertGreater(min(words.values()), 40, words)
        self.assertGreater(min(ends.values()), 10, ends)

    def test_twelve_through_forty_moments(self):
        chance = random.Random(72)
        world = [body(place, Fraction(chance.randint(-50, 20), 7), chance.randint(1, 1000)) for place in range(1, 13)]
        told = self.check(world, 40)
        self.assertEqual((told[0], len({met[0] for met in told[1]})), ("more", 40))

    def test_numbers_of_moments(self):
        told = self.check(LONG_WALLED, 40)
        self.assertEqual((told[0], len(told[1])), ("more", 40))
        for most in range(41):
            part = self.check(LONG_WALLED, most)
            self.assertEqual((part[0], part[1]), ("more", told[1][:most]))

    def test_fractions_of_four_hundred_figures(self):
        chance = random.Random(73)
        size = 10 ** 399
        places = sorted(Fraction(chance.randint(1, size), chance.randint(1, size)) for _ in range(3))
        speeds = [Fraction(chance.randint(-size, size), chance.randint(1, size)) for _ in range(3)]
        world = [body(place, speed, 3) for place, speed in zip(places, speeds)]
        self.check(world, 8)


class Crowds(unittest.TestCase):
    def check(self, world, ahead=0):
        """A crowd comes just behind so many moments."""
        told = walled_run(world, 40)
        with self.subTest(world=world):
            self.assertEqual(told[0], "crowd")
            self.assertEqual(len({met[0] for met in told[1]}), ahead)
            self.assertEqual(kinds(told), kinds(plain_course(world, 40, near=0)))
            self.assertEqual(kinds(walled_run(world, ahead + 1)), kinds(told))
            part = walled_run(world, ahead)
            self.assertEqual(kinds(part), kinds(("more",) + told[1:]))
        return told

    def test_wall_and_two(self):
        world = together(0, 2, [-1, -2])
        self.assertEqual(kinds(self.check(world)), kinds(("crowd", [], world, (0, 1))))

    def test_wall_and_three_and_twelve(self):
        self.check(together(0, 2, [-1, -2, -3]))
        self.check(together(0, Fraction(1, 3), range(-1, -13, -1), range(1, 13)))

    def test_three_away_from_the_wall(self):
        self.check(together(9, 2, [1, 0, -1]))
        self.check([body(1, 0)] + together(9, 2, [1, 0, -1]))

    def test_beside_meetings_of_the_same_moment(self):
        world = together(0, 2, [-1, -2]) + together(40, 2, [1, -1])
        self.assertEqual(self.check(world)[1:3], ([], world))
        world = [body(2, -1)] + together(40, 2, [1, 0, -1])
        self.assertEqual(self.check(world)[1:3], ([], world))

    def test_behind_other_moments(self):
        world = together(0, 9, [-1, -2]) + together(60, 1, [1, -1])
        self.assertEqual(self.check(world, 1)[3], (1, 1))
        # The first one comes back from the wall to where two others meet just then.
        world = [body(1, -1)] + together(4, 5, [-2, -3])
        self.assertEqual(self.check(world, 1)[3], (1, 1))

    def test_wall_and_two_one_behind_the_other(self):
        # Both come to the wall, but the first one is met on its way back.
        world = world_of((1, -1), (2, -1))
        run = [((1, 1), (0, 1), -1), ((3, 2), (1, 2), 0), ((2, 1), (0, 1), -1)]
        self.assertEqual(walled_run(world, 40), ("still", run, world_of((0, 1), (1, 1)), (2, 1)))


class Refusals(unittest.TestCase):
    NOT_RIGHT = [
        world_of((0, 1)), world_of((0, -1), (1, 0)), world_of((-1, 0)), world_of((Fraction(-1, LONGER), 5), (3, 0)),
        world_of((-5, 0), (-4, 0), (-3, 0)), world_of((-LONGER, 0), (LONGER, 0)),
    ]

    def test_number_nought_at_the_wall_or_beyond(self):
        for world in self.NOT_RIGHT:
            for most in (0, 1, 40):
                refused_at(self, 0, walled_run, world, most)

    def test_that_goes_ahead_of_a_number_that_is_none(self):
        for world in self.NOT_RIGHT:
            for most in [41, -1, HUNDRED] + ODD_THINGS:
                refused_at(self, 0, walled_run, world, most)

    def test_no_number_of_moments(self):
        for world in (world_of((1, 0)), LONG_WALLED, together(0, 2, [-1, -2])):
            for most in [41, 42, -1, -40, -HUNDRED, HUNDRED] + ODD_THINGS:
                with self.assertRaises(TooMany):
                    walled_run(world, most)

    def test_each_number_from_0_to_40_is_one(self):
        for most in range(41):
            self.assertEqual(walled_run(world_of((1, 0)), most)[0], "still")

    def test_just_right_of_the_wall(self):
        world = [body(Fraction(1, LONGER), -1)]
        self.assertEqual(walled_run(world, 40)[1], [((1, LONGER), (0, 1), -1)])


class NothingElseChanges(unittest.TestCase):
    def test_what_is_handed_in(self):
        for world in [LONG_WALLED, world_of((1, 0)), together(0, 2, [-1, -2]), world_of((0, 1), (1, 1))]:
            for most in WHOLE_NUMBERS + [3, 40, 41, True, None, "1", [1]]:
                unchanged(self, walled_run, world, most)

    def test_told_lists_may_be_changed(self):
        for world in (LONG_WALLED, world_of((1, 0)), together(0, 2, [-1, -2])):
            for most in (0, 1, 7):
                handed = list(world)
                told, again = walled_run(handed, most), walled_run(handed, most)
                for part in (1, 2):
                    self.assertIsNot(told[part], again[part])
                    self.assertIsNot(told[part], handed)
                    told[part].append(None)
                    told[part][0] = None
                self.assertEqual(handed, world)
                self.assertEqual(walled_run(handed, most), again)
                handed.clear()
                self.assertEqual(walled_run(world, most), again)


class SameRunOtherwise(unittest.TestCase):
    def test_might_at_each_moment_and_push_between_the_wall_meetings(self):
        for world in list(walled_by_chance(75, 2)) + [LONG_WALLED]:
            ahead, count = world, 0
            for most in range(1, 12):
                word, run, bodies, moment = walled_run(world, most)
                self.assertEqual(might(bodies), might(world))
                if len(run) == count:
                    break
                count = len(run)
                if (moment, (0, 1), -1) in run:
                    gone = free(push(bodies)) - free(push(ahead))
                    self.assertEqual(gone, 2 * bodies[0][2] * free(bodies[0][1]))
                else:
                    self.assertEqual(push(bodies), push(ahead))
                ahead = bodies

    def test_beside_its_mirrored_half(self):
        for world in walled_by_chance(76, 3):
            count = len(world)
            if count > 6:
                continue
            for most in (0, 1, 3, 40):
                both, told = run_of(mirrored(world) + world, most), walled_run(world, most)
                self.assertEqual((told[0], told[3]), (both[0], both[3]))
                self.assertEqual(told[2], both[2][count:])
                right = [(moment, place, number - count) for moment, place, number in both[1] if number >= count - 1]
                self.assertEqual(told[1], right)

    def test_far_from_the_wall_it_is_a_line(self):
        for world in walled_by_chance(77, 1):
            shift = 10 ** 9
            far = [body(free(place) + shift, free(speed), weight) for place, speed, weight in world]
            line, told = run_of(far, 5), walled_run(far, 5)
            if not [met for met in told[1] if met[2] == -1] and told[0] == line[0] == "more":
                self.assertEqual(told, line)

    def test_nobody_passes_or_leaves(self):
        for world in walled_by_chance(78, 2):
            for most in (1, 4, 40):
                places = [free(one[0]) for one in walled_run(world, most)[2]]
                self.assertEqual(places, sorted(places))
                self.assertGreaterEqual(places[0], 0)

    def test_at_last_all_go_away(self):
        ends = 0
        for world in walled_by_chance(79, 4):
            told = walled_run(world, 40)
            if told[0] == "still":
                speeds = [free(one[1]) for one in told[2]]
                self.assertEqual(speeds, sorted(speeds))
                self.assertGreaterEqual(speeds[0], 0)
                ends += 1
        self.assertGreater(ends, 20)


if __name__ == "__main__":
    unittest.main()
