"""Points 65 and 66 and the walls of 8, and points 3 to 5 of rooms."""

import random
import unittest
from fractions import Fraction
from math import floor

from knockwright.errors import NoMoment
from knockwright.rooms import in_room, round_of
from tests.samples import (
    BELOW_NOUGHT, LONGER, alike, body, fraction_by_chance, free, kinds, pair, refused_at, unchanged, world_of,
)

HALF = Fraction(1, 2)


def bounced(one, length, time):
    """A body gone to and fro, from wall to wall, as it is just behind a bounce."""
    place, speed = free(one[0]), free(one[1])
    if speed == 0:
        return place, speed
    while True:
        way = length - place if speed > 0 else place
        if way / abs(speed) > time:
            return place + speed * time, speed
        time -= way / abs(speed)
        place = length if speed > 0 else Fraction(0)
        speed = -speed


def plain_room(world, length, moment):
    rows = sorted(bounced(one, free(length), free(moment)) for one in world)
    return [(pair(place), pair(speed), world[0][2]) for place, speed in rows]


def likes_within(chance, count, length, bottom=6, most=5):
    places = set()
    while len(places) < count:
        places.add(Fraction(chance.randint(1, 5 * bottom - 1), 5 * bottom) * length)
    weight = chance.randint(1, 1000)
    return [body(place, fraction_by_chance(chance, most, bottom), weight) for place in sorted(places)]


def rooms_by_chance(seed, rounds, bottom=6):
    chance = random.Random(seed)
    for _ in range(rounds):
        for count in range(1, 13):
            length = Fraction(chance.randint(1, 30), chance.randint(1, bottom))
            yield likes_within(chance, count, length, bottom), pair(length)


def wall_moments(world, length):
    """When some straight goings come to a wall: the first few of each."""
    moments = []
    for one in world:
        place, speed = free(one[0]), free(one[1])
        if speed != 0:
            first = (free(length) - place if speed > 0 else place) / abs(speed)
            moments.extend(first + k * free(length) / abs(speed) for k in (0, 1, 2, 7))
    return [pair(moment) for moment in moments]


class InRoom(unittest.TestCase):
    def check(self, world, length, moment):
        told = in_room(world, length, moment)
        with self.subTest(world=world, length=length, moment=moment):
            self.assertEqual(kinds(told), kinds(plain_room(world, length, moment)))
        return told

    def test_by_hand(self):
        world = [body(1, 2, 5)]
        for moment, place, speed in [
            ((0, 1), 1, 2), ((1, 2), 2, 2), ((1, 1), 3, -2), ((3, 2), 2, -2), ((2, 1), 1, -2), ((5, 2), 0, 2),
            ((3, 1), 1, 2), ((11, 2), 0, 2), ((4, 1), 3, -2), ((9, 2), 2, -2),
        ]:
            self.assertEqual(kinds(in_room(world, (3, 1), moment)), kinds([body(place, speed, 5)]))

    def test_to_the_left(self):
        world = [body(1, -1)]
        for moment, place, speed in [
            ((0, 1), 1, -1), ((1, 2), HALF, -1), ((1, 1), 0, 1), ((2, 1), 1, 1), ((4, 1), 3, -1), ((5, 1), 2, -1),
            ((7, 1), 0, 1), ((10, 1), 3, -1),
        ]:
            self.assertEqual(kinds(in_room(world, (3, 1), moment)), kinds([body(place, speed)]))

    def test_at_rest(self):
        world = world_of((1, 0), (2, 0), (Fraction(5, 2), 0))
        for moment in [(0, 1), (7, 3), (LONGER, 1)]:
            self.assertEqual(in_room(world, (3, 1), moment), world)

    def test_several_by_places_then_by_speeds(self):
        world = world_of((1, 1), (2, -1), (3, -3))
        self.assertEqual(in_room(world, (4, 1), (0, 1)), world)
        self.assertEqual(in_room(world, (4, 1), (1, 2)), world_of((3 * HALF, -3), (3 * HALF, -1), (3 * HALF, 1)))
        self.assertEqual(in_room(world, (4, 1), (1, 1)), world_of((0, 3), (1, -1), (2, 1)))

    def test_two_at_a_wall_at_once(self):
        left = world_of((1, -1), (2, -2), (3, 0))
        self.assertEqual(in_room(left, (4, 1), (1, 1)), world_of((0, 1), (0, 2), (3, 0)))
        right = world_of((1, 0), (2, 2), (3, 1))
        self.assertEqual(in_room(right, (4, 1), (1, 1)), world_of((1, 0), (4, -2), (4, -1)))
        both = world_of((1, -1), (2, 0), (3, 1))
        self.assertEqual(in_room(both, (4, 1), (1, 1)), world_of((0, 1), (2, 0), (4, -1)))

    def test_against_bouncing(self):
        chance = random.Random(65)
        for world, length in rooms_by_chance(66, 4):
            for moment in [(0, 1)] + [pair(abs(fraction_by_chance(chance, 40))) for _ in range(6)]:
                self.check(world, length, moment)

    def test_at_the_walls(self):
        walls = {"left": 0, "right": 0}
        for world, length in rooms_by_chance(67, 2):
            for moment in wall_moments(world, length):
                for place, speed, weight in self.check(world, length, moment):
                    if place == (0, 1):
                        walls["left"] += 1
                        self.assertGreater(free(speed), 0)
                    if place == length:
                        walls["right"] += 1
                        self.assertLess(free(speed), 0)
        self.assertGreater(min(walls.values()), 100, walls)

    def test_to_and_fro_many_times(self):
        world = world_of((1, 1000), (2, Fraction(-999, 2)), (Fraction(5, 2), 1))
        for moment in [(17, 1), (1001, 10), (333, 7)]:
            self.check(world, (3, 1), moment)

    def test_to_and_fro_more_often_than_can_be_gone_through(self):
        # Behind whole rounds all is as at first, however many there were.
        world = world_of((1, 1), (2, -2))
        for rounds in (10 ** 50, LONGER):
            moment = Fraction(rounds * 6) + Fraction(1, 3)
            self.assertEqual(in_room(world, (3, 1), pair(moment)), in_room(world, (3, 1), (1, 3)))

    def test_fractions_of_many_figures(self):
        chance = random.Random(68)
        for size in (10 ** 20, 10 ** 390):
            length = Fraction(size + 1, chance.randint(1, size))
            world = likes_within(chance, 12, length, size, size)
            for moment in [Fraction(1, size), Fraction(chance.randint(1, 20), 3)]:
                told = in_room(world, pair(length), pair(moment))
                rows = []
                for one in world:
                    # The places where a body may be, unfolded: x and -x are one place, led on by twice the length.
                    place = free(one[0]) + free(one[1]) * moment
                    spot = place - 2 * length * floor(place / (2 * length))
                    fold = spot > length
                    rows.append((2 * length - spot if fold else spot, -free(one[1]) if fold else free(one[1])))
                self.assertEqual(told, [(pair(p), pair(v), world[0][2]) for p, v in sorted(rows)])


class Refusals(unittest.TestCase):
    def each(self, number, world, length, moment):
        refused_at(self, number, in_room, world, length, moment)
        refused_at(self, number, round_of, world, length)

    def test_outside(self):
        for places, length, number in [
            ([0, 1, 2], (3, 1), 0), ([-1, 1, 2], (3, 1), 0), ([1, 2, 3], (3, 1), 2), ([1, 2, 4], (3, 1), 2),
            ([1, 3, 4], (3, 1), 1), ([-2, -1, 5], (3, 1), 0), ([1], (1, 1), 0), ([HALF], (1, 2), 0),
            ([HALF], (1, 3), 0), ([0], (1, 1), 0), ([Fraction(-1, LONGER)], (1, 1), 0), ([5, 6, 7], (4, 1), 0),
            ([HALF, Fraction(LONGER, 3)], (LONGER, 3), 1),
        ]:
            world = [body(place, 1 - number, 3) for number, place in enumerate(places)]
            for moment in [(0, 1), (1, 1), (-1, 1)]:
                self.each(number, world, length, moment)

    def test_just_within(self):
        world = world_of((Fraction(1, LONGER), 0), (1 - Fraction(1, LONGER), 0))
        self.assertEqual(in_room(world, (1, 1), (5, 1)), world)
        self.assertIsNone(round_of(world, (1, 1)))

    def test_unlike_weights_go_ahead_of_that(self):
        for places in ([1, 2, 3], [0, 1, 2], [-5, 9, 10]):
            world = [body(place, 1, weight) for place, weight in zip(places, (4, 4, 5))]
            for moment in [(0, 1), (-1, 1)]:
                self.each(2, world, (3, 1), moment)
        self.each(1, world_of((1, 0, 1), (2, 0, 2), (3, 0, 3)), (4, 1), (1, 1))

    def test_a_moment_below_nought_behind_that(self):
        for moment in BELOW_NOUGHT:
            self.assertRaises(NoMoment, in_room, world_of((1, 1), (2, 0)), (3, 1), moment)
            refused_at(self, 0, in_room, world_of((0, 1), (2, 0)), (3, 1), moment)
            refused_at(self, 1, in_room, world_of((1, 1), (2, 0, 2)), (3, 1), moment)


class RoundOf(unittest.TestCase):
    def test_by_hand(self):
        for world, length, told in [
            ([body(1, 2)], (3, 1), (3, 1)),
            ([body(1, -2, 9)], (3, 1), (3, 1)),
            ([body(HALF, Fraction(1, 3))], (1, 1), (6, 1)),
            (world_of((1, 1), (2, 0)), (3, 1), (6, 1)),
            (world_of((1, 1), (2, 2)), (3, 1), (6, 1)),
            (world_of((1, 2), (2, 3)), (3, 1), (6, 1)),
            (world_of((1, Fraction(2, 3)), (2, Fraction(1, 2))), (3, 1), (36, 1)),
            (world_of((1, 1), (2, -1)), (3, 1), (3, 1)),
            (world_of((1, 1), (2, 1)), (3, 1), (6, 1)),
        ]:
            self.assertEqual(kinds(round_of(world, length)), kinds(told))

    def test_all_at_rest(self):
        for world in (world_of((1, 0)), world_of((1, 0, 7), (2, 0, 7)), [body(Fraction(k, 13)) for k in range(1, 13)]):
            self.assertIsNone(round_of(world, (5, 1)))

    def test_bodies_alike_that_stand_in_one_anothers_place(self):
        # On a ring twice as long as the room each of these stands where the next one stood, a part of a round later.
        for parts in (2, 3, 4, 6, 12):
            for first in (Fraction(1, 5), Fraction(1, 7)):
                ring = [(first + Fraction(2 * k, parts)) % 2 for k in range(parts)]
                rows = [(spot, 1) if spot < 1 else (2 - spot, -1) for spot in ring]
                world = alike(world_of(*sorted(rows)), 8)
                self.assertEqual(round_of(world, (1, 1)), pair(Fraction(2, parts)))
                speeds = [(place, 5 * speed) for place, speed in sorted(rows)]
                self.assertEqual(round_of(world_of(*speeds), (1, 1)), pair(Fraction(2, 5 * parts)))
                fewer = alike(world[1:], 8)
                self.assertEqual(round_of(fewer, (1, 1)), (2, 1))

    def test_one_pace_in_parts_and_another_whole(self):
        # Two of the pace 1 come round by halves, in 3; one of the pace 3 in 2: all in 6.
        world = world_of((1, 1), (Fraction(3, 2), 3), (2, -1))
        self.assertEqual(round_of(world, (3, 1)), (6, 1))
        # One of the pace 2 comes round in 3, as the two do by halves.
        self.assertEqual(round_of(world_of((1, 1), (Fraction(3, 2), 2), (2, -1)), (3, 1)), (3, 1))

    def ways_back(self, world, length, whole):
        """All moments above 0 and below the told one at which a moving body may stand where one of its pace began."""
        mover = next(one for one in world if one[1] != (0, 1))
        pace = abs(free(mover[1]))
        ring = 2 * free(length)

        def spot(one):
            return ring - free(one[0]) if free(one[1]) < 0 else free(one[0])

        for other in world:
            if abs(free(other[1])) == pace:
                time = ((spot(other) - spot(mover)) % ring) / pace
                while time < whole:
                    if time > 0:
                        yield time
                    time += ring / pace

    def test_no_lesser_moment_brings_the_very_list_back(self):
        chance = random.Random(69)
        tried = 0
        for _ in range(200):
            length = Fraction(chance.randint(2, 6))
            places = sorted(chance.sample(range(1, 2 * int(length)), chance.randint(1, min(5, 2 * int(length) - 1))))
            world = [body(Fraction(place, 2), chance.choice([-2, -1, -1, 0, 1, 1, 2, 3])) for place in places]
            whole = round_of(world, pair(length))
            if whole is None:
                self.assertTrue(all(one[1] == (0, 1) for one in world))
                continue
            self.assertGreater(free(whole), 0)
            self.assertEqual(in_room(world, pair(length), whole), world)
            for time in self.ways_back(world, pair(length), free(whole)):
                self.assertNotEqual(plain_room(world, pair(length), pair(time)), world)
                tried += 1
        self.assertGreater(tried, 100)

    def test_it_brings_the_very_list_back_again_and_again(self):
        for world, length in rooms_by_chance(70, 3):
            whole = round_of(world, length)
            if whole is not None:
                for times in (1, 2, 7, 10 ** 30):
                    moment = pair(free(whole) * times)
                    self.assertEqual(kinds(in_room(world, length, moment)), kinds(world))
                later = pair(free(whole) + Fraction(1, 3))
                self.assertEqual(in_room(world, length, later), in_room(world, length, (1, 3)))
                parts = [in_room(world, length, pair(free(whole) / part)) != world for part in (2, 3, 5, 7)]
                self.assertEqual(parts, [True] * 4)

    def test_as_the_least_common_one(self):
        for world, length in rooms_by_chance(71, 3):
            paces = [abs(free(one[1])) for one in world if free(one[1]) != 0]
            whole = round_of(world, length)
            self.assertEqual(whole is None, paces == [])
            if len(paces) == len(set(paces)) and paces:
                # Of paces all unlike each body must come round by itself, and no whole part of that will do.
                rounds = [free(whole) * pace / (2 * free(length)) for pace in paces]
                self.assertTrue(all(number.denominator == 1 for number in rounds))
                for part in range(2, 8):
                    self.assertFalse(all((number / part).denominator == 1 for number in rounds))

    def test_fractions_of_many_figures(self):
        length = Fraction(LONGER, 10 ** 399 + 1)
        world = [body(length * Fraction(k, 13), Fraction(LONGER + k, 3 ** 800 + k), 2) for k in range(1, 13)]
        whole = round_of(world, pair(length))
        self.assertEqual(in_room(world, pair(length), whole), world)
        self.assertNotEqual(in_room(world, pair(length), pair(free(whole) / 2)), world)


class NothingElseChanges(unittest.TestCase):
    def test_nothing_is_changed(self):
        refused = [world_of((0, 1), (2, 0)), world_of((1, 1), (2, 0, 2))]
        for world in [world_of((1, 1), (2, -2)), world_of((1, 0))] + refused:
            unchanged(self, round_of, world, (3, 1))
            for moment in [(0, 1), (5, 2), (-1, 1)]:
                unchanged(self, in_room, world, (3, 1), moment)

    def test_told_lists_may_be_changed(self):
        world = world_of((1, 1), (2, -2))
        for moment in [(0, 1), (6, 1), (1, 2)]:
            told, again = in_room(world, (3, 1), moment), in_room(world, (3, 1), moment)
            self.assertIsNot(told, world)
            self.assertIsNot(told, again)
            told.clear()
            self.assertEqual(in_room(world, (3, 1), moment), again)
        self.assertEqual(world, world_of((1, 1), (2, -2)))


if __name__ == "__main__":
    unittest.main()
