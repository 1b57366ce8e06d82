"""Points 2 to 5, 11 and 12 of bodies and worlds."""

import itertools
import random
import unittest
from fractions import Fraction

from knockwright.errors import NoBody, NoWorld
from knockwright.worlds import is_body, is_world, numbered
from tests.samples import HUNDRED, LONG, LONGER, ODD_THINGS, WHOLE_NUMBERS, body, row_of, unchanged

NO_FRACTIONS = ODD_THINGS + WHOLE_NUMBERS + [(2, 4), (0, 2), (1, 0), (1, -2), (True, 1), (1, True), [1, 2]]


class IsBody(unittest.TestCase):
    def test_what_is_one(self):
        halves = body(Fraction(1, 2), Fraction(-7, 3), 1000)
        for thing in [body(0), body(-3, 5, 7), halves, ((LONG, 1), (-1, LONGER), 2)]:
            self.assertIs(is_body(thing), True, thing)

    def test_weights(self):
        for weight in (1, 2, 999, 1000):
            self.assertIs(is_body(body(0, 0, weight)), True, weight)
        for weight in (0, -1, 1001, -1000, HUNDRED, -HUNDRED):
            self.assertIs(is_body(body(0, 0, weight)), False, weight)
        for weight in ODD_THINGS + [(1, 1), (5, 1)]:
            self.assertIs(is_body(body(0, 0, weight)), False, weight)

    def test_a_list_is_none(self):
        self.assertIs(is_body([(0, 1), (0, 1), 1]), False)
        self.assertIs(is_body(list(body(3, 4, 5))), False)

    def test_two_parts_or_four(self):
        longer = ((0, 1), (0, 1), (0, 1), 1)
        for thing in [body(0)[:2], body(0) + (1,), body(0)[:1], body(0) + body(0), ((0, 1), 1), longer]:
            self.assertIs(is_body(thing), False, thing)

    def test_a_place_or_a_speed_that_is_no_fraction(self):
        for thing in NO_FRACTIONS:
            self.assertIs(is_body((thing, (0, 1), 1)), False, thing)
            self.assertIs(is_body(((0, 1), thing, 1)), False, thing)
            self.assertIs(is_body((thing, thing, 1)), False, thing)

    def test_parts_exchanged(self):
        self.assertIs(is_body((1, (0, 1), (0, 1))), False)
        self.assertIs(is_body(((0, 1), 1, (0, 1))), False)

    def test_things_of_every_other_kind(self):
        for thing in ODD_THINGS + WHOLE_NUMBERS + [(1, 2), row_of(1)]:
            self.assertIs(is_body(thing), False, thing)

    def test_nothing_is_changed(self):
        for thing in ODD_THINGS:
            unchanged(self, is_body, thing)


class IsWorld(unittest.TestCase):
    def test_one_to_twelve_bodies(self):
        for count in range(1, 13):
            self.assertIs(is_world(row_of(count)), True, count)

    def test_none_thirteen_and_more(self):
        for count in (0, 13, 14, 40):
            self.assertIs(is_world(row_of(count)), False, count)

    def test_two_at_one_place(self):
        for count in (2, 3, 12):
            for number in range(1, count):
                world = row_of(count)
                world[number] = world[number - 1][:1] + ((5, 2), 9)
                self.assertIs(is_world(world), False, (count, number))

    def test_two_exchanged(self):
        for count in (2, 3, 12):
            for number in range(1, count):
                world = row_of(count)
                world[number - 1], world[number] = world[number], world[number - 1]
                self.assertIs(is_world(world), False, (count, number))

    def test_places_are_told_apart_to_the_last_figure(self):
        near = [body(Fraction(-1, 2)), body(Fraction(-1, 3)), body(0), body(Fraction(1, 3)), body(Fraction(1, 2))]
        self.assertIs(is_world(near), True)
        self.assertIs(is_world(near[::-1]), False)
        fine = [body(Fraction(LONGER, LONGER + 1)), body(Fraction(LONGER + 1, LONGER + 2))]
        self.assertIs(is_world(fine), True)
        self.assertIs(is_world(fine[::-1]), False)

    def test_speeds_and_weights_say_nothing_of_the_order(self):
        self.assertIs(is_world([body(1, 9, 1000), body(2, -9, 1), body(3, 0, 500)]), True)

    def test_a_tuple_in_the_place_of_the_list(self):
        for count in (1, 2, 12):
            self.assertIs(is_world(tuple(row_of(count))), False, count)
        self.assertIs(is_world({0: body(0)}), False)
        self.assertIs(is_world(body(0)), False)

    def test_a_thing_that_is_no_body(self):
        for thing in ODD_THINGS + WHOLE_NUMBERS + [body(1, 0, 0), body(1, 0, 1001), body(1, 0, True), list(body(1))]:
            for number in range(3):
                world = row_of(3)
                world[number] = thing
                self.assertIs(is_world(world), False, thing)
            self.assertIs(is_world([thing]), False, thing)

    def test_things_of_every_other_kind(self):
        for thing in ODD_THINGS + WHOLE_NUMBERS + [(1, 2)]:
            self.assertIs(is_world(thing), False, thing)

    def test_nothing_is_changed(self):
        for thing in ODD_THINGS + [row_of(12), row_of(13), row_of(3)[::-1]]:
            unchanged(self, is_world, thing)


class Numbered(unittest.TestCase):
    def refused(self, at, bodies):
        with self.assertRaises(NoWorld) as taken:
            numbered(bodies)
        self.assertIs(type(taken.exception.at), int)
        self.assertEqual(taken.exception.at, at)

    def test_one_to_twelve_bodies(self):
        for count in range(1, 13):
            self.assertEqual(numbered(row_of(count)), row_of(count))
            self.assertEqual(numbered(row_of(count)[::-1]), row_of(count))

    def test_every_order_of_a_few(self):
        halves = [body(Fraction(-1, 2), -3, 1000), body(Fraction(1, 3)), body(Fraction(1, 2), 7, 2)]
        world = [body(-2, 3, 4)] + halves + [body(5)]
        for bodies in itertools.permutations(world):
            self.assertEqual(numbered(list(bodies)), world)

    def test_orders_by_chance(self):
        chance = random.Random(12)
        for _ in range(200):
            places = {Fraction(chance.randint(-50, 50), chance.randint(1, 9)) for _ in range(chance.randint(1, 12))}
            world = [body(place, chance.randint(-9, 9), chance.randint(1, 1000)) for place in sorted(places)]
            bodies = chance.sample(world, len(world))
            told = numbered(bodies)
            self.assertEqual(told, world)
            self.assertIs(is_world(told), True)

    def test_long_places(self):
        world = [body(Fraction(LONGER + k, LONGER + k + 1)) for k in range(12)]
        self.assertEqual(numbered(world[6:] + world[:6]), world)

    def test_no_bodies(self):
        self.refused(0, [])

    def test_two_at_one_place(self):
        for count in (2, 3, 5, 12):
            for number in range(1, count):
                bodies = row_of(count)
                bodies[number] = body(number - 1, 7, 9)
                self.refused(number, bodies)
                self.refused(number, bodies[::-1])

    def test_the_first_that_stands_where_another_one_stands(self):
        self.refused(1, [body(5), body(3), body(5), body(3), body(4)])
        self.refused(2, [body(0), body(5), body(5), body(5), body(7)])
        self.refused(1, [body(0, 1), body(0, 1)])
        self.refused(1, [body(0)] * 20)

    def test_thirteen_and_more(self):
        for count in (13, 14, 30):
            self.refused(12, row_of(count))
            self.refused(12, row_of(count)[::-1])

    def test_thirteen_and_two_at_one_place(self):
        for number in range(12):
            self.refused(number + 1, row_of(13) + [body(number)])
        self.refused(12, row_of(13) + [body(12)])
        self.refused(12, row_of(20) + [body(15)])
        self.refused(12, row_of(12) + [body(11)])

    def test_a_thing_that_is_no_body(self):
        for thing in ODD_THINGS + WHOLE_NUMBERS + [body(1, 0, 0), body(1, 0, 1001), body(1, 0, True), list(body(1))]:
            for number in range(4):
                bodies = row_of(3)
                bodies.insert(number, thing)
                with self.subTest(thing=thing), self.assertRaises(NoBody):
                    numbered(bodies)
            with self.subTest(thing=thing), self.assertRaises(NoBody):
                numbered([thing])

    def test_what_is_no_list(self):
        for thing in [True, False, None, "", "bodies", 0, 5, (), {}, {0: body(0)}, body(0), tuple(row_of(3)), (1, 2)]:
            with self.subTest(thing=thing), self.assertRaises(NoBody):
                numbered(thing)

    def test_what_is_no_body_goes_ahead_of_what_is_no_world(self):
        for bodies in [row_of(13), [body(0), body(0)], row_of(2)[::-1]]:
            for number in (0, len(bodies)):
                mixed = list(bodies)
                mixed.insert(number, None)
                self.assertRaises(NoBody, numbered, mixed)

    def test_the_told_list_is_another_one(self):
        for count in (1, 2, 12):
            handed = row_of(count)
            told = numbered(handed)
            again = numbered(handed)
            self.assertIsNot(told, handed)
            self.assertIsNot(told, again)
            told.append(None)
            told[0] = None
            self.assertEqual(handed, row_of(count))
            self.assertEqual(again, row_of(count))
            handed.clear()
            self.assertEqual(again, row_of(count))
            self.assertEqual(numbered(row_of(count)), row_of(count))

    def test_nothing_is_changed(self):
        rows = [row_of(1), row_of(12)[::-1], row_of(13)[::-1], [], [body(2), body(1), body(2)], [body(1), None]]
        for bodies in ODD_THINGS + rows:
            unchanged(self, numbered, bodies)


if __name__ == "__main__":
    unittest.main()
