"""Points 95 and 96, and points 3 to 5 of losses."""

import random
import unittest
from fractions import Fraction

from knockwright.errors import NoShare, TooMany
from knockwright.knocks import might, mirrored, push, seen_from, speeds_after
from knockwright.lines import run_of
from knockwright.losses import lost_in, run_lost, speeds_lost
from tests.plainly import plain_course
from tests.samples import (
    HUNDRED, LONG, LONG_RUN, LONGER, ODD_THINGS, THREE, WHOLE_NUMBERS, body, close_by_chance, fraction_by_chance, free,
    kinds, pair, row_of, together, unchanged, world_by_chance, world_of, worlds_by_chance,
)

HALF = Fraction(1, 2)
SHARES = [(0, 1), (1, 1), (1, 2), (1, 3), (9, 10), (1, 1000), (999, 1000)]
NO_SHARES = [(-1, 1), (-1, 2), (-1, LONGER), (-LONGER, 1), (2, 1), (3, 2), (LONGER + 1, LONGER), (LONGER, 2)]


def two_by_chance(seed, rounds):
    chance = random.Random(seed)
    for _ in range(rounds):
        one, other = [
            body(fraction_by_chance(chance, 30), fraction_by_chance(chance, 30), chance.randint(1, 1000))
            for _ in range(2)
        ]
        yield one, other, pair(Fraction(chance.randint(0, 12), 12))


class Speeds(unittest.TestCase):
    def test_by_hand(self):
        one, other = body(0, 3, 2), body(9, -1, 1)
        for share, speeds in [
            ((0, 1), ((5, 3), (5, 3))), ((1, 1), ((1, 3), (13, 3))), ((1, 2), ((1, 1), (3, 1))),
            ((1, 4), ((4, 3), (7, 3))),
        ]:
            self.assertEqual(kinds(speeds_lost(one, other, share)), kinds(speeds))

    def test_by_the_words(self):
        for one, other, share in two_by_chance(95, 200):
            m, u, w, v, s = one[2], free(one[1]), other[2], free(other[1]), free(share)
            left = (m * u + w * v + w * s * (v - u)) / (m + w)
            right = (m * u + w * v + m * s * (u - v)) / (m + w)
            self.assertEqual(kinds(speeds_lost(one, other, share)), kinds((pair(left), pair(right))))

    def test_with_the_share_1_as_without(self):
        for one, other, share in two_by_chance(96, 100):
            self.assertEqual(kinds(speeds_lost(one, other, (1, 1))), kinds(speeds_after(one, other)))

    def test_with_the_share_0_both_go_on_together(self):
        for one, other, share in two_by_chance(97, 100):
            left, right = speeds_lost(one, other, (0, 1))
            self.assertEqual(left, right)
            self.assertEqual(free(left), free(push([one, other])) / (one[2] + other[2]))

    def test_push_stays(self):
        for one, other, share in two_by_chance(98, 100):
            speeds = speeds_lost(one, other, share)
            after = [(two[0], speed, two[2]) for two, speed in zip((one, other), speeds)]
            self.assertEqual(push(after), push([one, other]))

    def test_long_numbers(self):
        one, other = body(0, Fraction(LONGER, LONG), 1000), body(1, Fraction(-LONG, LONGER), 1)
        share = (LONGER - 2, LONGER)
        left, right = speeds_lost(one, other, share)
        self.assertEqual(free(right) - free(left), free(share) * (free(one[1]) - free(other[1])))
        self.assertEqual(1000 * free(left) + free(right), free(push([one, other])))


class Lost(unittest.TestCase):
    def test_by_hand(self):
        one, other = body(0, 3, 2), body(9, -1, 1)
        for share, lost in [((0, 1), (32, 3)), ((1, 1), (0, 1)), ((1, 2), (8, 1)), ((3, 4), (14, 3))]:
            self.assertEqual(kinds(lost_in(one, other, share)), kinds(lost))

    def test_against_might_ahead_and_behind(self):
        for one, other, share in two_by_chance(99, 200):
            speeds = speeds_lost(one, other, share)
            after = [(two[0], speed, two[2]) for two, speed in zip((one, other), speeds)]
            lost = free(might([one, other])) - free(might(after))
            self.assertEqual(kinds(lost_in(one, other, share)), kinds(pair(lost)))
            self.assertGreaterEqual(lost, 0)

    def test_places_say_nothing(self):
        for one, other, share in two_by_chance(100, 30):
            for places in [(0, 1), (1, 0), (3, 3), (-LONGER, LONGER)]:
                moved = [body(place, free(two[1]), two[2]) for place, two in zip(places, (one, other))]
                self.assertEqual(lost_in(*moved, share), lost_in(one, other, share))
                self.assertEqual(speeds_lost(*moved, share), speeds_lost(one, other, share))
            self.assertEqual(lost_in(other, one, share), lost_in(one, other, share))
            self.assertEqual(speeds_lost(other, one, share), speeds_lost(one, other, share)[::-1])

    def test_with_one_speed_nothing_is_lost(self):
        for share in SHARES:
            self.assertEqual(lost_in(body(0, HALF, 3), body(5, HALF, 7), share), (0, 1))


class Shares(unittest.TestCase):
    def test_below_0_and_above_1(self):
        one, other = body(0, 3, 2), body(9, -1, 1)
        for share in NO_SHARES:
            for deed in (speeds_lost, lost_in):
                with self.assertRaises(NoShare):
                    deed(one, other, share)
            for most in [0, 1, 40, 41, -1, HUNDRED] + ODD_THINGS:
                with self.assertRaises(NoShare):
                    run_lost([one, other], share, most)

    def test_from_0_to_1(self):
        one, other = body(0, 3, 2), body(9, -1, 1)
        for share in SHARES + [(1, LONGER), (LONGER - 1, LONGER)]:
            self.assertEqual(len(speeds_lost(one, other, share)), 2)
            self.assertEqual(len(lost_in(one, other, share)), 2)
            self.assertEqual(run_lost([one, other], share, 40)[0], "still")

    def test_no_number_of_moments(self):
        for share in SHARES:
            for world in (THREE, row_of(1), together(0, 1, [1, 0, -1])):
                for most in [41, 42, -1, -40, HUNDRED, -HUNDRED] + ODD_THINGS:
                    with self.assertRaises(TooMany):
                        run_lost(world, share, most)


class Runs(unittest.TestCase):
    def check(self, world, share, most):
        told = run_lost(world, share, most)
        with self.subTest(world=world, share=share, most=most):
            self.assertEqual(kinds(told), kinds(plain_course(world, most, share=free(share))))
        return told

    def test_two_by_hand(self):
        world = world_of((0, 3, 2), (8, -1, 1))
        for share, speeds in [((0, 1), ((5, 3), (5, 3))), ((1, 2), ((1, 1), (3, 1)))]:
            bodies = [((6, 1), speeds[0], 2), ((6, 1), speeds[1], 1)]
            right = ("still", [((2, 1), (6, 1), 0)], bodies, (2, 1))
            for most in (1, 2, 40):
                self.assertEqual(kinds(run_lost(world, share, most)), kinds(right))
            self.assertEqual(kinds(run_lost(world, share, 0)), kinds(("more", [], world, (0, 1))))

    def test_with_the_share_1_as_without(self):
        for world in [THREE, LONG_RUN, row_of(12)] + list(worlds_by_chance(101, 3)):
            for most in (0, 1, 5, 40):
                self.assertEqual(kinds(run_lost(world, (1, 1), most)), kinds(run_of(world, most)))

    def test_by_chance(self):
        chance = random.Random(102)
        words = {"still": 0, "more": 0, "crowd": 0}
        for world in worlds_by_chance(103, 4):
            for share in [(0, 1), (1, 2), pair(Fraction(chance.randint(1, 9), 10))]:
                for most in (1, 4, 12):
                    words[self.check(world, share, most)[0]] += 1
        self.assertGreater(min(words.values()), 40, words)

    def test_numbers_of_moments(self):
        # Less is lost than would make an end of it.
        told = self.check(LONG_RUN, (999, 1000), 40)
        self.assertEqual((told[0], len(told[1])), ("more", 40))
        for most in range(41):
            part = run_lost(LONG_RUN, (999, 1000), most)
            self.assertEqual((part[0], part[1]), ("more", told[1][:most]))

    def test_that_go_on_together_do_not_meet_again(self):
        for most in (1, 2, 40):
            told = self.check(world_of((0, 1, 3), (2, 0, 5)), (0, 1), most)
            self.assertEqual((told[0], len(told[1])), ("still", 1))
            self.assertEqual(told[2][0][:2], told[2][1][:2])
        # Two such pairs, one of which would come to the other: four at one place.
        world = world_of((0, 2), (1, 0), (20, 0), (21, -2))
        told = self.check(world, (0, 1), 40)
        self.assertEqual((told[0], told[3], len(told[1])), ("crowd", (1, 2), 2))

    def test_pairs_that_go_on_beside_one_another(self):
        world = world_of((0, 1), (1, -3), (20, 2), (22, 0))
        told = self.check(world, (0, 1), 40)
        self.assertEqual((told[0], len(told[1])), ("still", 2))

    def test_a_third_one_that_comes_to_two(self):
        from_right = world_of((0, 1), (2, -1), (9, -1))
        from_left = world_of((-9, 1), (0, 1), (2, -1))
        caught = world_of((0, 4), (2, 0), (20, 1))
        for world, ahead in [(from_right, 1), (from_left, 1), (caught, 1)]:
            told = self.check(world, (0, 1), 40)
            self.assertEqual((told[0], len(told[1])), ("crowd", ahead))
            self.assertEqual(kinds(run_lost(world, (0, 1), ahead)), kinds(("more",) + told[1:]))
            self.assertEqual(kinds(run_lost(world, (0, 1), ahead + 1)), kinds(told))
            # With a share they part ahead of that, and there is no crowd.
            self.assertNotEqual(run_lost(world, (1, 1), 40)[0], "crowd")

    def test_a_third_one_beside_meetings_of_the_same_moment(self):
        # At 8 the third one comes to the two that stand at 1, and far off two others meet.
        world = world_of((0, 1), (2, -1), (9, -1)) + together(50, 8, [1, -1])
        told = self.check(world, (0, 1), 40)
        self.assertEqual((told[0], told[3], len(told[1])), ("crowd", (1, 1), 1))

    def test_crowds_as_without(self):
        for share in SHARES:
            for world in [together(0, 1, [1, 0, -1]), together(3, 2, [3, 1, 0, -4, -5])]:
                self.assertEqual(kinds(self.check(world, share, 40)), kinds(("crowd", [], world, (0, 1))))
                self.assertEqual(run_lost(world, share, 0)[0], "more")

    def test_a_share_of_four_hundred_figures(self):
        chance = random.Random(104)
        share = pair(Fraction(LONGER // 3, LONGER))
        self.check(world_by_chance(chance, 4), share, 6)
        self.check(world_by_chance(chance, 3, 10 ** 400 - 1, 10 ** 400 - 1), share, 3)

    def test_twelve_through_many_moments(self):
        world = [body(place, -place + place % 3, 1 + 7 * place) for place in range(1, 13)]
        told = self.check(world, (2, 3), 25)
        self.assertGreater(len({met[0] for met in told[1]}), 12)


class Promises(unittest.TestCase):
    def runs(self, seed):
        """Worlds with a share, and their bodies just ahead of each moment with what meets then."""
        chance = random.Random(seed)
        for world in worlds_by_chance(seed, 2):
            share = pair(Fraction(chance.randint(0, 6), 6))
            told = [run_lost(world, share, most) for most in range(10)]
            steps = []
            for now, later in zip(told, told[1:]):
                steps.append((now[2], later[1][len(now[1]):]))
            yield world, share, told, steps

    def test_push_is_the_same(self):
        for world, share, told, steps in self.runs(105):
            self.assertEqual({push(run[2]) for run in told}, {push(world)})

    def test_might_is_less_what_was_lost(self):
        meetings = 0
        for world, share, told, steps in self.runs(106):
            left = free(might(world))
            for (ahead, met), later in zip(steps, told[1:]):
                left -= sum(free(lost_in(ahead[k], ahead[k + 1], share)) for moment, place, k in met)
                meetings += len(met)
                self.assertEqual(free(might(later[2])), left)
        self.assertGreater(meetings, 100)

    def test_speeds_are_those_of_two_that_meet(self):
        for world, share, told, steps in self.runs(107):
            for (ahead, met), later in zip(steps, told[1:]):
                speeds = [one[1] for one in ahead]
                for moment, place, k in met:
                    speeds[k:k + 2] = speeds_lost(ahead[k], ahead[k + 1], share)
                self.assertEqual([one[1] for one in later[2]], speeds)

    def test_nobody_passes(self):
        for world, share, told, steps in self.runs(108):
            for run in told:
                places = [free(one[0]) for one in run[2]]
                self.assertEqual(places, sorted(places))

    def test_seen_by_one_who_goes_along(self):
        chance = random.Random(109)
        for world, share, told, steps in self.runs(110):
            speed = fraction_by_chance(chance, 9)
            seen = run_lost([seen_from(one, pair(speed)) for one in world], share, 5)
            self.assertEqual((seen[0], seen[3]), (told[5][0], told[5][3]))
            way = [(met[0], pair(free(met[1]) - speed * free(met[0])), met[2]) for met in told[5][1]]
            self.assertEqual(seen[1], way)
            along = speed * free(told[5][3])
            self.assertEqual(seen[2], [body(free(p) - along, free(v) - speed, w) for p, v, w in told[5][2]])
            one, other = seen_from(world[0], pair(speed)), seen_from(world[-1], pair(speed))
            self.assertEqual(lost_in(one, other, share), lost_in(world[0], world[-1], share))
            speeds = [pair(free(two) - speed) for two in speeds_lost(world[0], world[-1], share)]
            self.assertEqual(list(speeds_lost(one, other, share)), speeds)

    def test_mirrored(self):
        chance = random.Random(111)
        for _ in range(20):
            world = close_by_chance(chance, chance.randint(1, 12))
            for share in [(0, 1), (1, 3)]:
                told, seen = run_lost(world, share, 6), run_lost(mirrored(world), share, 6)
                self.assertEqual((seen[0], seen[2], seen[3]), (told[0], mirrored(told[2]), told[3]))


class NothingElseChanges(unittest.TestCase):
    def test_what_is_handed_in(self):
        for world in [THREE, LONG_RUN, row_of(2), together(0, 1, [1, 0, -1])]:
            for share in [(0, 1), (1, 2), (2, 1)]:
                unchanged(self, speeds_lost, world[0], world[1], share)
                unchanged(self, lost_in, world[0], world[1], share)
                for most in WHOLE_NUMBERS + [3, True, None, "1", [1]]:
                    unchanged(self, run_lost, world, share, most)

    def test_told_lists_may_be_changed(self):
        for world in (THREE, row_of(3), together(0, 1, [1, 0, -1])):
            for share in [(0, 1), (1, 2)]:
                for most in (0, 1, 40):
                    handed = list(world)
                    told, again = run_lost(handed, share, most), run_lost(handed, share, most)
                    for part in (1, 2):
                        self.assertIsNot(told[part], again[part])
                        self.assertIsNot(told[part], handed)
                        told[part].append(None)
                        told[part][0] = None
                    self.assertEqual(handed, world)
                    self.assertEqual(run_lost(handed, share, most), again)


if __name__ == "__main__":
    unittest.main()
