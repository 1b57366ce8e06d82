"""Points 2 and 81 of boxes and rooms, and points 3 to 5 of boxes."""

import itertools
import random
import unittest
from fractions import Fraction

from knockwright.boxes import is_box, is_room, overlap
from tests.plain_boxes import box, room
from tests.samples import HUNDRED, LONGER, ODD_THINGS, WHOLE_NUMBERS, fraction_by_chance, kinds, unchanged

BOX = box(1, Fraction(-2, 3), Fraction(1, 2), 3, Fraction(-7, 5), 0, 9)
NO_FRACTIONS = [(2, 4), (0, 2), (1, 0), (1, -1), (-1, -2), (1,), (1, 2, 3), [1, 2], True, (True, 1), (1, True), "1", 1]
HALF = Fraction(1, 2)


def put(thing, place, part):
    return thing[:place] + (part,) + thing[place + 1:]


def holds(one, x, y):
    """Whether the point is within a box that is told in whole numbers."""
    left, low, wide, high = [part[0] for part in one[:4]]
    return left < x < left + wide and low < y < low + high


class IsBox(unittest.TestCase):
    def yes(self, thing):
        self.assertIs(is_box(thing), True, thing)

    def no(self, thing):
        with self.subTest(thing=thing):
            self.assertIs(is_box(thing), False)

    def test_boxes(self):
        self.yes(BOX)
        self.yes(box(0, 0))
        self.yes(box(-5, -7, Fraction(1, LONGER), LONGER, -LONGER, Fraction(3, LONGER), 1000))

    def test_parts_too_few_or_too_many(self):
        for count in range(7):
            self.no(BOX[:count])
        self.no(BOX + (1,))
        self.no(BOX + (None,))
        self.no(BOX + BOX)

    def test_lists(self):
        self.no(list(BOX))
        self.no([BOX])
        for place in range(6):
            self.no(put(BOX, place, list(BOX[place])))

    def test_sides(self):
        for place in (2, 3):
            for part in [(0, 1), (-1, 1), (-1, LONGER), (-LONGER, 7)]:
                self.no(put(BOX, place, part))
            for part in [(1, 1), (1, LONGER), (LONGER, 1)]:
                self.yes(put(BOX, place, part))

    def test_places_and_speeds_may_be_any_fraction(self):
        for place in (0, 1, 4, 5):
            for part in [(0, 1), (-1, 1), (-1, LONGER), (LONGER, 2)]:
                self.yes(put(BOX, place, part))

    def test_weights(self):
        for weight in (1, 2, 999, 1000):
            self.yes(put(BOX, 6, weight))
        for weight in [0, -1, 1001, HUNDRED, -HUNDRED, (1, 1)] + ODD_THINGS:
            self.no(put(BOX, 6, weight))

    def test_parts_that_are_no_fractions(self):
        for place in range(6):
            for part in NO_FRACTIONS + ODD_THINGS:
                self.no(put(BOX, place, part))

    def test_things_of_every_other_kind(self):
        for thing in ODD_THINGS + WHOLE_NUMBERS + [room(1, 1), ((1, 1), (1, 1), 1), (1,) * 7, "1234567", [1] * 7]:
            self.no(thing)
        self.no(dict(enumerate(BOX)))


class IsRoom(unittest.TestCase):
    def no(self, thing):
        with self.subTest(thing=thing):
            self.assertIs(is_room(thing), False)

    def test_rooms(self):
        for thing in [room(1, 1), room(HALF, 7), room(LONGER, Fraction(1, LONGER))]:
            self.assertIs(is_room(thing), True)

    def test_parts(self):
        for thing in [((1, 1),), ((1, 1), (1, 1), (1, 1)), (), [(1, 1), (1, 1)], ([1, 1], (1, 1)), ((1, 1), [1, 1])]:
            self.no(thing)
        for part in NO_FRACTIONS + ODD_THINGS + [(0, 1), (-1, 1), (-1, LONGER)]:
            self.no(((3, 2), part))
            self.no((part, (3, 2)))

    def test_things_of_every_other_kind(self):
        for thing in [thing for thing in ODD_THINGS if thing != ((1, 1), (1, 1))] + WHOLE_NUMBERS + [BOX]:
            self.no(thing)
        self.assertIs(is_room(((1, 1), (1, 1))), True)


class Overlaps(unittest.TestCase):
    def check(self, one, other, right):
        for first, second in [(one, other), (other, one)]:
            with self.subTest(one=first, other=second):
                self.assertIs(overlap(first, second), right)

    def test_two_that_overlap(self):
        one = box(0, 0, 2, 2)
        for left, low in itertools.product([-1, -HALF, 0, 1, 3 * HALF, Fraction(19, 10)], repeat=2):
            self.check(one, box(left, low, 2, 2), True)
        self.check(one, box(2 - Fraction(1, LONGER), 2 - Fraction(1, LONGER)), True)

    def test_crossed(self):
        self.check(box(-5, 0, 10, 1), box(0, -5, 1, 10), True)
        self.check(box(-5, 0, 10, 1), box(0, HALF, 1, 10), True)

    def test_one_within_the_other(self):
        self.check(box(0, 0, 4, 4), box(1, 1, 1, 1), True)
        self.check(box(0, 0, 4, 4), box(0, 0, 1, 4), True)
        self.check(box(0, 0, 4, 4), box(0, 0, 4, 4, 7, 7, 7), True)

    def test_touching_at_a_side(self):
        one = box(0, 0, 2, 2)
        for low in (-2, -1, 0, HALF, 1):
            self.check(one, box(2, low, 1, 3), False)
            self.check(one, box(low, 2, 3, 1), False)

    def test_touching_at_a_corner(self):
        for left, low in itertools.product([-1, 2], repeat=2):
            self.check(box(0, 0, 2, 2), box(left, low), False)

    def test_far_apart(self):
        one = box(0, 0, 2, 2)
        for left, low in [(3, 0), (0, 3), (-9, 1), (1, -9), (5, 5), (-5, 5), (-5, -5), (2 + Fraction(1, LONGER), 0)]:
            self.check(one, box(left, low), False)

    def test_speeds_and_weights_say_nothing(self):
        self.check(box(0, 0, 1, 1, 5, 5, 1000), box(1, 0, 1, 1, -5, -5, 1), False)
        self.check(box(0, 0, 1, 1, -5, -5, 1000), box(HALF, 0, 1, 1, 5, 5, 1), True)

    def test_by_points(self):
        # On a fine net of points some point is within both just where they overlap.
        chance = random.Random(81)
        both = {True: 0, False: 0}
        for _ in range(400):
            one, other = [
                box(chance.randint(0, 6), chance.randint(0, 6), chance.randint(1, 4), chance.randint(1, 4))
                for _ in range(2)
            ]
            spots = [Fraction(2 * k + 1, 2) for k in range(11)]
            within = [holds(one, x, y) and holds(other, x, y) for x in spots for y in spots]
            self.check(one, other, any(within))
            both[any(within)] += 1
        self.assertGreater(min(both.values()), 50)


class NothingElseChanges(unittest.TestCase):
    def test_asked_again(self):
        for thing in [BOX, room(1, 2), [BOX], list(BOX)] + ODD_THINGS:
            unchanged(self, is_box, thing)
            unchanged(self, is_room, thing)
        chance = random.Random(82)
        for _ in range(10):
            other = box(fraction_by_chance(chance, 4), fraction_by_chance(chance, 4), 2, 2)
            unchanged(self, overlap, BOX, other)


if __name__ == "__main__":
    unittest.main()
