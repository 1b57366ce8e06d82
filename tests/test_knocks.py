"""Points 21 to 25, and points 3 to 5 of knocks."""

import random
import unittest
from fractions import Fraction

from knockwright.knocks import meet_of, might, mirrored, push, seen_from, speeds_after
from knockwright.worlds import is_body, is_world
from tests.samples import (
    LONG, LONGER, body, fraction_by_chance, free, kinds, pair, refused_at, row_of, unchanged, world_by_chance, world_of,
)


def with_speed(one, speed):
    return (one[0], speed, one[2])


def about(number):
    return pair(-free(number))


def about_body(one):
    return (about(one[0]), about(one[1]), one[2])


def bodies_by_chance(seed, count, long=True):
    """Pairs of bodies, the one to the left of the other; half of them with fractions of many figures."""
    chance = random.Random(seed)
    rows = []
    for number in range(count):
        size = 10 ** chance.randint(10, 60) if long and number % 2 else 12
        rows.append(world_by_chance(chance, 2, size, size))
    return rows


LONG_PAIR = world_of(
    (Fraction(-LONGER, LONG), Fraction(LONG, LONGER + 1), 1000),
    (Fraction(LONG, LONGER), Fraction(-LONG - 1, LONGER + 3), 1),
)


class Meeting(unittest.TestCase):
    def refused(self, one, other):
        refused_at(self, 1, meet_of, one, other)

    def test_by_hand(self):
        for one, other, told in [
            (body(0, 1), body(2, -1), ((1, 1), (1, 1))),
            (body(0, 1), body(5, 0), ((5, 1), (5, 1))),
            (body(-3, 0), body(-1, -4), ((1, 2), (-3, 1))),
            (body(-1, -1), body(0, -2), ((1, 1), (-2, 1))),
            (body(Fraction(-1, 2), Fraction(1, 3), 9), body(Fraction(1, 2), Fraction(-1, 6), 4), ((2, 1), (1, 6))),
        ]:
            self.assertEqual(kinds(meet_of(one, other)), kinds(told))

    def test_that_go_alike(self):
        for speed in (0, 1, -1, Fraction(7, 3)):
            self.assertIsNone(meet_of(body(0, speed), body(1, speed, 5)))

    def test_that_go_apart(self):
        for first, second in [(0, 1), (-1, 1), (-1, 0), (2, 3), (-3, -2), (Fraction(1, 3), Fraction(1, 2))]:
            self.assertIsNone(meet_of(body(0, first), body(1, second)))

    def test_at_one_place(self):
        for first, second in [(0, 0), (1, -1), (-1, 1), (5, 3)]:
            self.refused(body(0, first), body(0, second))
            self.refused(body(Fraction(-1, 2), first, 7), body(Fraction(-1, 2), second))

    def test_exchanged(self):
        for first, second in [(0, 0), (1, -1), (-1, 1), (5, 3)]:
            self.refused(body(1, first), body(0, second))
            self.refused(body(Fraction(-1, 3), first), body(Fraction(-1, 2), second))

    def test_by_chance(self):
        never = 0
        for one, other in bodies_by_chance(21, 300) + [LONG_PAIR]:
            gain = free(one[1]) - free(other[1])
            told = meet_of(one, other)
            self.refused(other, one)
            if gain <= 0:
                self.assertIsNone(told)
                never += 1
            else:
                time = (free(other[0]) - free(one[0])) / gain
                place = free(other[0]) + free(other[1]) * time
                self.assertEqual(kinds(told), kinds((pair(time), pair(place))))
        self.assertTrue(50 < never < 250)

    def test_weights_say_nothing(self):
        for weight in (1, 7, 1000):
            self.assertEqual(meet_of(body(0, 1, weight), body(2, -1, 1001 - weight)), ((1, 1), (1, 1)))

    def test_the_same_again(self):
        for one, other in bodies_by_chance(22, 20):
            unchanged(self, meet_of, one, other)
            unchanged(self, meet_of, other, one)


class Parting(unittest.TestCase):
    def test_by_hand(self):
        for one, other, told in [
            (body(0, 1, 1), body(2, -1, 1), ((-1, 1), (1, 1))),
            (body(0, 3, 2), body(2, 0, 1), ((1, 1), (4, 1))),
            (body(0, 1, 1), body(2, 0, 3), ((-1, 2), (1, 2))),
            (body(0, 0, 1), body(2, -1, 1000), ((-2000, 1001), (-999, 1001))),
            (body(0, Fraction(1, 2), 3), body(2, Fraction(-1, 3), 2), ((-1, 6), (2, 3))),
        ]:
            self.assertEqual(kinds(speeds_after(one, other)), kinds(told))

    def test_by_the_words(self):
        for one, other in bodies_by_chance(23, 200) + [LONG_PAIR]:
            m, w, u, v = one[2], other[2], free(one[1]), free(other[1])
            left = ((m - w) * u + 2 * w * v) / (m + w)
            right = ((w - m) * v + 2 * m * u) / (m + w)
            self.assertEqual(kinds(speeds_after(one, other)), kinds((pair(left), pair(right))))

    def test_places_say_nothing(self):
        for first in (-5, 0, 2, Fraction(1, 3)):
            for second in (-5, 0, 2, Fraction(1, 3)):
                self.assertEqual(speeds_after(body(first, 3, 2), body(second, 0, 1)), ((1, 1), (4, 1)))
                self.assertEqual(speeds_after(body(first, 0, 1), body(second, 3, 2)), ((4, 1), (1, 1)))

    def test_that_go_alike_or_apart(self):
        self.assertEqual(speeds_after(body(0, 5, 3), body(1, 5, 4)), ((5, 1), (5, 1)))
        self.assertEqual(speeds_after(body(0, -1, 1), body(1, 1, 1)), ((1, 1), (-1, 1)))

    def test_the_same_again(self):
        for one, other in bodies_by_chance(24, 20):
            unchanged(self, speeds_after, one, other)


class PushAndMight(unittest.TestCase):
    def check(self, bodies):
        speeds = [(one[2], free(one[1])) for one in bodies]
        self.assertEqual(kinds(push(bodies)), kinds(pair(Fraction(sum(w * v for w, v in speeds)))))
        self.assertEqual(kinds(might(bodies)), kinds(pair(Fraction(sum(w * v * v for w, v in speeds)))))

    def test_of_none(self):
        self.assertEqual(kinds(push([])), kinds((0, 1)))
        self.assertEqual(kinds(might([])), kinds((0, 1)))

    def test_of_one(self):
        self.assertEqual(kinds(push([body(9, Fraction(-3, 2), 4)])), kinds((-6, 1)))
        self.assertEqual(kinds(might([body(9, Fraction(-3, 2), 4)])), kinds((9, 1)))

    def test_of_two(self):
        two = world_of((0, Fraction(1, 2), 3), (5, Fraction(-1, 3), 2))
        self.assertEqual(push(two), (5, 6))
        self.assertEqual(might(two), (35, 36))

    def test_of_one_to_twelve(self):
        chance = random.Random(25)
        for count in range(1, 13):
            for size in (5, 10 ** 30):
                self.check(world_by_chance(chance, count, size, size))
        self.check(LONG_PAIR)

    def test_in_any_order_wherever_they_are(self):
        chance = random.Random(26)
        for _ in range(20):
            world = world_by_chance(chance, 12)
            mixed = chance.sample(world, 12)
            self.check(mixed)
            self.assertEqual((push(mixed), might(mixed)), (push(world), might(world)))
            heap = [body(3, free(one[1]), one[2]) for one in mixed]
            self.assertEqual((push(heap), might(heap)), (push(world), might(world)))

    def test_the_same_behind_as_ahead(self):
        for one, other in bodies_by_chance(27, 100) + [LONG_PAIR]:
            left, right = speeds_after(one, other)
            parted = [with_speed(one, left), with_speed(other, right)]
            self.assertEqual(push(parted), push([one, other]))
            self.assertEqual(might(parted), might([one, other]))

    def test_there_are_but_two_such_speeds(self):
        # With the push kept, the right speed follows from the left one; the might then makes a square rule of it.
        for one, other in bodies_by_chance(28, 50):
            m, w, u, v = one[2], other[2], free(one[1]), free(other[1])
            left = free(speeds_after(one, other)[0])
            self.assertEqual(u + left, 2 * (m * u + w * v) / (m + w))

    def test_nothing_is_changed(self):
        for bodies in [[], row_of(1), row_of(12)[::-1], LONG_PAIR, [body(1, 2), body(1, 3)]]:
            unchanged(self, push, bodies)
            unchanged(self, might, bodies)


class Seeing(unittest.TestCase):
    def test_by_hand(self):
        self.assertEqual(kinds(seen_from(body(3, 5, 7), (2, 1))), kinds(((3, 1), (3, 1), 7)))
        self.assertEqual(kinds(seen_from(body(3, 5, 7), (-1, 2))), kinds(((3, 1), (11, 2), 7)))
        self.assertEqual(kinds(seen_from(body(-3, Fraction(1, 2)), (1, 2))), kinds(((-3, 1), (0, 1), 1)))

    def test_by_chance(self):
        chance = random.Random(29)
        for one, other in bodies_by_chance(30, 60):
            speed = fraction_by_chance(chance, 10 ** 20, 10 ** 20)
            for seen in (one, other):
                told = seen_from(seen, pair(speed))
                self.assertEqual(kinds(told), kinds((seen[0], pair(free(seen[1]) - speed), seen[2])))
                self.assertTrue(is_body(told))
                self.assertEqual(seen_from(told, pair(-speed)), seen)

    def test_the_same_again(self):
        unchanged(self, seen_from, body(3, 5, 7), (-1, 2))


class Mirroring(unittest.TestCase):
    def test_by_hand(self):
        world = world_of((-1, 2, 3), (0, 0, 4), (Fraction(1, 2), Fraction(-5, 3), 5))
        told = [((-1, 2), (5, 3), 5), ((0, 1), (0, 1), 4), ((1, 1), (-2, 1), 3)]
        self.assertEqual(kinds(mirrored(world)), kinds(told))
        self.assertEqual(kinds(mirrored(world_of((3, -4, 1000)))), kinds(world_of((-3, 4, 1000))))

    def test_by_chance_and_twice(self):
        chance = random.Random(31)
        for count in range(1, 13):
            world = world_by_chance(chance, count, 10 ** 15, 10 ** 15)
            told = mirrored(world)
            self.assertTrue(is_world(told))
            self.assertEqual(kinds(told), kinds([about_body(one) for one in world[::-1]]))
            self.assertEqual(kinds(mirrored(told)), kinds(world))

    def test_the_told_list_is_a_new_one(self):
        for count in (1, 2, 12):
            world = row_of(count)
            told, again = mirrored(world), mirrored(world)
            self.assertIsNot(told, again)
            self.assertIsNot(mirrored(told), world)
            told.clear()
            self.assertEqual(len(again), count)
            world.clear()
            self.assertEqual(len(again), count)

    def test_nothing_is_changed(self):
        for count in (1, 2, 12):
            unchanged(self, mirrored, row_of(count))


class WhatFollows(unittest.TestCase):
    def test_whoever_goes_along_sees_the_same(self):
        chance = random.Random(32)
        for one, other in bodies_by_chance(33, 100) + [LONG_PAIR]:
            speed = fraction_by_chance(chance, 10 ** 12, 10 ** 12)
            first, second = seen_from(one, pair(speed)), seen_from(other, pair(speed))
            met, seen = meet_of(one, other), meet_of(first, second)
            self.assertEqual(met is None, seen is None)
            if met is not None:
                self.assertEqual(met[0], seen[0])
                self.assertEqual(free(seen[1]), free(met[1]) - speed * free(met[0]))
            behind = [pair(free(told) - speed) for told in speeds_after(one, other)]
            self.assertEqual(list(speeds_after(first, second)), behind)

    def test_mirrored_they_meet_at_the_same_moment(self):
        for world in bodies_by_chance(34, 100) + [LONG_PAIR]:
            met = meet_of(*world)
            seen = meet_of(*mirrored(world))
            if met is None:
                self.assertIsNone(seen)
            else:
                self.assertEqual(seen, (met[0], about(met[1])))
            left, right = speeds_after(*world)
            self.assertEqual(speeds_after(*mirrored(world)), (about(right), about(left)))

    def test_bodies_of_one_weight_exchange_their_speeds(self):
        for one, other in bodies_by_chance(35, 60) + [LONG_PAIR]:
            for weight in (1, 2, 999, 1000):
                alike = (one[0], one[1], weight), (other[0], other[1], weight)
                self.assertEqual(speeds_after(*alike), (other[1], one[1]))

    def test_turned_about_they_come_to_have_the_speeds_ahead_turned_about(self):
        for one, other in bodies_by_chance(36, 100) + [LONG_PAIR]:
            left, right = speeds_after(one, other)
            back = speeds_after(with_speed(one, about(left)), with_speed(other, about(right)))
            self.assertEqual(back, (about(one[1]), about(other[1])))

    def test_what_was_told_is_handed_in_again(self):
        one, other = LONG_PAIR
        for _ in range(6):
            left, right = speeds_after(one, other)
            one, other = seen_from(with_speed(one, left), right), with_speed(other, left)
        m, w, u, v = one[2], other[2], free(one[1]), free(other[1])
        self.assertEqual(free(speeds_after(one, other)[0]), ((m - w) * u + 2 * w * v) / (m + w))
        self.assertEqual(free(push([one, other])), m * u + w * v)


if __name__ == "__main__":
    unittest.main()
