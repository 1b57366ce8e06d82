"""Points 81 to 86, and points 3 to 5 of planes."""

import random
import unittest
from fractions import Fraction

from knockwright.boxes import overlap
from knockwright.errors import NoBox, Overlap, TooMany
from knockwright.planes import run_in
from knockwright.walls import walled_run
from tests.plain_boxes import Free, box, gone, plain_run_in, room
from tests.plainly import plain_course
from tests.samples import HUNDRED, LONGER, ODD_THINGS, WHOLE_NUMBERS, body, free, kinds, pair, unchanged

HALF = Fraction(1, 2)
NINE = room(9, 9)
NO_NUMBERS = [41, 42, -1, -40, HUNDRED, -HUNDRED] + ODD_THINGS


def boxes_by_chance(chance, count, wide, high, bottom=1, speed=2, weight=3):
    """At most so many boxes in a room, none of which overlap, with bottoms up to a number."""
    boxes = []
    for _ in range(30 * count):
        sizes = [Fraction(chance.randint(1, 2 * bottom), bottom) for _ in range(2)]
        ends = [int((wide - sizes[0]) * bottom), int((high - sizes[1]) * bottom)]
        places = [Fraction(chance.randint(0, end), bottom) for end in ends]
        speeds = [Fraction(chance.randint(-speed, speed), chance.randint(1, bottom)) for _ in range(2)]
        one = box(*places, *sizes, *speeds, chance.randint(1, weight))
        if len(boxes) < count and not any(overlap(one, other) for other in boxes):
            boxes.append(one)
    return boxes


def rooms_by_chance(seed, rounds):
    """Rooms with boxes: small whole numbers, which make crowds, and fractions."""
    chance = random.Random(seed)
    for _ in range(rounds):
        for count in range(1, 7):
            wide, high = chance.randint(3, 9), chance.randint(3, 9)
            yield room(wide, high), boxes_by_chance(chance, count, wide, high, 1, chance.randint(1, 2))
            yield room(wide, high), boxes_by_chance(chance, count, wide, high, 6, 5, 1000)


def moments_of(run):
    return sorted({free(met[0]) for met in run})


class OneBox(unittest.TestCase):
    def test_between_all_four_walls(self):
        one = box(1, 2, HALF, Fraction(1, 3), Fraction(3, 7), Fraction(-2, 5), 8)
        told = run_in(room(5, 4), [one], 40)
        self.assertEqual((told[0], len(told[1])), ("more", 40))
        met = [(moment, "across", *walls) for moment, *walls in bounces(1, HALF, Fraction(3, 7), 5)]
        met += [(moment, "along", *walls) for moment, *walls in bounces(2, Fraction(1, 3), Fraction(-2, 5), 4)]
        met = sorted(met)[:40]
        self.assertEqual(kinds(told[1]), kinds([(pair(moment), *rest) for moment, *rest in met]))
        self.assertEqual(told[3], told[1][-1][0])
        ways = {("across", -1, 0), ("across", 0, -2), ("along", -1, 0), ("along", 0, -2)}
        self.assertEqual({met[1:] for met in told[1]}, ways)

    def test_each_wall_by_hand(self):
        for speeds, time, meeting, place, turned in [
            ((-2, 0), HALF, ("across", -1, 0), (0, 2), (2, 0)), ((2, 0), 1, ("across", 0, -2), (3, 2), (-2, 0)),
            ((0, -2), 1, ("along", -1, 0), (1, 0), (0, 2)), ((0, 2), 2, ("along", 0, -2), (1, 6), (0, -2)),
        ]:
            told = run_in(room(4, 8), [box(1, 2, 1, 2, *speeds, 5)], 1)
            moment = pair(Fraction(time))
            right = ("more", [(moment, *meeting)], [box(*place, 1, 2, *turned, 5)], moment)
            self.assertEqual(kinds(told), kinds(right))

    def test_at_rest(self):
        for one in (box(1, 1), box(0, 0), box(0, 0, 9, 9), box(8, 8)):
            for most in (0, 1, 40):
                self.assertEqual(kinds(run_in(NINE, [one], most)), kinds(("still", [], [one], (0, 1))))

    def test_along_a_wall(self):
        # It touches the lower wall all the way, and doesn't meet it.
        told = run_in(room(3, 9), [box(0, 0, 1, 1, 1, 0)], 2)
        self.assertEqual(told[1], [((2, 1), "across", 0, -2), ((4, 1), "across", -1, 0)])

    def test_with_long_numbers(self):
        one = box(Fraction(1, LONGER), 1, 1, 1, Fraction(-1, LONGER), 0, 1)
        told = run_in(room(LONGER, 3), [one], 1)
        self.assertEqual(told[1], [((1, 1), "across", -1, 0)])


def bounces(near, size, speed, end):
    """The first fifty meetings of one box with the two walls of one way, as (moment, one, other)."""
    met, now = [], Fraction(0)
    near, speed = Fraction(near), Fraction(speed)
    for _ in range(50):
        now += (end - size - near) / speed if speed > 0 else near / -speed
        met.append((now, 0, -2) if speed > 0 else (now, -1, 0))
        near = end - size if speed > 0 else Fraction(0)
        speed = -speed
    return met


class Two(unittest.TestCase):
    def test_across(self):
        boxes = [box(6, 1, 1, 1, -1, 0, 1), box(1, HALF, 2, 1, 1, 0, 3)]
        told = run_in(NINE, boxes, 1)
        moment = Fraction(3, 2)
        bodies = [box(9 * HALF, 1, 1, 1, 2, 0, 1), box(5 * HALF, HALF, 2, 1, 0, 0, 3)]
        self.assertEqual(kinds(told), kinds(("more", [(pair(moment), "across", 1, 0)], bodies, pair(moment))))

    def test_along(self):
        boxes = [box(1, 6, 1, 1, 0, -1, 1), box(HALF, 1, 1, 2, 0, 1, 3)]
        told = run_in(NINE, boxes, 1)
        moment = Fraction(3, 2)
        bodies = [box(1, 9 * HALF, 1, 1, 0, 2, 1), box(HALF, 5 * HALF, 1, 2, 0, 0, 3)]
        self.assertEqual(kinds(told), kinds(("more", [(pair(moment), "along", 1, 0)], bodies, pair(moment))))

    def test_the_speeds_of_this_way_alone_change(self):
        boxes = [box(1, 1, 2, 2, 1, Fraction(1, 10), 1), box(5, 1, 2, 2, -1, Fraction(-1, 10), 3)]
        told = run_in(NINE, boxes, 1)
        self.assertEqual(told[1], [((1, 1), "across", 0, 1)])
        self.assertEqual([one[4:] for one in told[2]], [((-2, 1), (1, 10), 1), ((0, 1), (-1, 10), 3)])

    def test_that_pass_at_a_distance(self):
        # Level with one another at 2, but the one is above the other.
        boxes = [box(0, 0, 1, 1, 1, 0), box(4, 3, 1, 1, -1, 0)]
        told = run_in(room(5, 9), boxes, 2)
        run = [(4, -1, 1), (4, 0, -2), (8, -1, 0), (8, 1, -2)]
        self.assertEqual(told[1], [((moment, 1), "across", one, other) for moment, one, other in run])

    def test_that_pass_side_by_side(self):
        # Their heights have one point in common, and neither comes along to the other.
        boxes = [box(0, 0, 1, 1, 1, 0), box(4, 1, 1, 1, -1, 0)]
        self.assertEqual(moments_of(run_in(room(5, 9), boxes, 3)[1]), [4, 8, 12])

    def test_that_pass_by_a_corner(self):
        # Corner to corner at 2, coming together across and parting along.
        told = run_in(NINE, [box(1, 4, 1, 1, 1, 1), box(4, 1, 1, 5)], 1)
        self.assertEqual(told[1], [((4, 1), "along", 0, -2)])
        # The other one a little higher, and they meet.
        told = run_in(NINE, [box(1, 4, 1, 1, 1, 1), box(4, 1, 1, 5 + Fraction(1, LONGER))], 1)
        self.assertEqual(told[1], [((2, 1), "across", 0, 1)])

    def test_that_touch_without_closing(self):
        for speeds in [(0, 0), (1, 1), (-1, -1), (-1, 0), (-1, 1), (0, 1)]:
            boxes = [box(3, 3, 1, 1, speeds[0]), box(4, 3, 1, 1, speeds[1])]
            told = run_in(NINE, boxes, 40)
            self.assertNotIn((0, 1), [met[0] for met in told[1]])
            self.assertEqual(kinds(told), kinds(plain_run_in(NINE, boxes, 40)[0]))

    def test_one_that_catches_up(self):
        boxes = [box(0, 0, 1, 1, 3), box(2, 0, 1, 1, 1, 0, 2)]
        self.assertEqual(run_in(room(20, 1), boxes, 1)[1], [((1, 2), "across", 0, 1)])


class AtNought(unittest.TestCase):
    def check(self, walls, boxes, run, speeds):
        told = run_in(walls, boxes, 1)
        self.assertEqual(kinds(told[1]), kinds([((0, 1), *met) for met in run]))
        self.assertEqual((told[0], told[3]), ("more", (0, 1)))
        self.assertEqual([one[:4] for one in told[2]], [one[:4] for one in boxes])
        self.assertEqual([(free(one[4]), free(one[5])) for one in told[2]], speeds)
        self.assertEqual(kinds(run_in(walls, boxes, 0)), kinds(("more", [], boxes, (0, 1))))
        self.assertGreater(free(run_in(walls, boxes, 2)[3]), 0)

    def test_with_each_wall(self):
        self.check(NINE, [box(0, 3, 1, 1, -2)], [("across", -1, 0)], [(2, 0)])
        self.check(NINE, [box(8, 3, 1, 1, 2)], [("across", 0, -2)], [(-2, 0)])
        self.check(NINE, [box(3, 0, 1, 1, 0, -2)], [("along", -1, 0)], [(0, 2)])
        self.check(NINE, [box(3, 8, 1, 1, 1, 2)], [("along", 0, -2)], [(1, -2)])

    def test_with_a_box(self):
        self.check(NINE, [box(3, 3, 1, 1, 1), box(4, 3, 1, 1, -2)], [("across", 0, 1)], [(-2, 0), (1, 0)])
        self.check(NINE, [box(3, 4, 1, 1, 1, 0), box(3, 3, 1, 1, 0, 1)], [("along", 1, 0)], [(1, 1), (0, 0)])

    def test_and_still_then(self):
        boxes = [box(3, 3, 1, 1, 0, 0, 1), box(4, 3, 1, 1, -1, 0, 1)]
        told = run_in(NINE, boxes, 2)
        self.assertEqual(told[1], [((0, 1), "across", 0, 1), ((3, 1), "across", -1, 0)])

    def test_away_from_a_wall(self):
        self.assertEqual(run_in(NINE, [box(0, 0, 1, 1, 1, 0)], 1)[1], [((8, 1), "across", 0, -2)])


class Order(unittest.TestCase):
    def test_a_wall_and_two_others(self):
        boxes = [box(5, 5, 1, 1, -1), box(0, 1, 1, 1, 0, -1), box(2, 5, 1, 1, 1), box(7, 1, 1, 1, 1)]
        told = run_in(NINE, boxes, 1)
        run = [((1, 1), "across", 2, 0), ((1, 1), "across", 3, -2), ((1, 1), "along", -1, 1)]
        self.assertEqual(kinds(told[1]), kinds(run))

    def test_across_ahead_then_by_one_then_by_other(self):
        boxes = [
            box(1, 7, 1, 1, 0, 1), box(7, 0, 1, 1, 1), box(1, 2, 1, 1, -1), box(4, 3), box(6, 3, 1, 1, -1),
            box(7, 5, 1, 1, 1),
        ]
        told = run_in(NINE, boxes, 1)
        run = [("across", -1, 2), ("across", 1, -2), ("across", 3, 4), ("across", 5, -2), ("along", 0, -2)]
        self.assertEqual(kinds(told[1]), kinds([((1, 1), *met) for met in run]))

    def test_the_order_of_the_handed_list_numbers_them(self):
        boxes = [box(2, 5, 1, 1, 1), box(5, 5, 1, 1, -1), box(2, 1, 1, 1, 1), box(5, 1, 1, 1, -1)]
        told = run_in(NINE, boxes, 1)
        self.assertEqual([met[2:] for met in told[1]], [(0, 1), (2, 3)])
        told = run_in(NINE, boxes[::-1], 1)
        self.assertEqual([met[2:] for met in told[1]], [(1, 0), (3, 2)])

    def test_by_moments(self):
        for walls, boxes in rooms_by_chance(83, 2):
            run = run_in(walls, boxes, 12)[1]
            keys = [(free(met[0]), met[1] == "along", met[2], met[3]) for met in run]
            self.assertEqual(keys, sorted(keys))
            self.assertEqual(len(keys), len(set(keys)))


class Crowds(unittest.TestCase):
    def check(self, walls, boxes, sorts, ahead=0):
        told = run_in(walls, boxes, 40)
        with self.subTest(boxes=boxes):
            right, found = plain_run_in(walls, boxes, 40)
            self.assertEqual(kinds(told), kinds(right))
            self.assertEqual((told[0], found), ("crowd", set(sorts)))
            self.assertEqual(len(moments_of(told[1])), ahead)
            self.assertEqual(kinds(run_in(walls, boxes, ahead + 1)), kinds(told))
            self.assertEqual(kinds(run_in(walls, boxes, ahead)), kinds(("more",) + told[1:]))
            if ahead == 0:
                self.assertEqual(kinds(told[1:]), kinds(([], boxes, (0, 1))))

    def test_into_each_corner_of_the_room(self):
        for right in (-1, 1):
            for up in (-1, 1):
                self.check(NINE, [box(4, 4, 1, 1, right, up)], ["two"])

    def test_a_box_with_two_meetings(self):
        self.check(NINE, [box(4, 4, 1, 1, 0, 0), box(1, 4, 1, 1, 1), box(7, 4, 1, 1, -1)], ["two", "between"])
        # Two meet it at one side.
        self.check(NINE, [box(5, 2, 1, 5), box(1, 2, 1, 1, 1), box(1, 5, 1, 1, 1)], ["two"])
        # One meets it across, and it meets the wall along.
        self.check(NINE, [box(5, 2, 1, 3, 0, -1), box(2, 0, 1, 4, 1)], ["two"])

    def test_a_box_that_is_touched_on_its_other_side(self):
        self.check(NINE, [box(4, 4), box(5, 4), box(1, 4, 1, 1, 1)], ["between"])
        self.check(NINE, [box(8, 4), box(1, 4, 1, 1, 1)], ["between"])
        self.check(NINE, [box(4, 8), box(4, 1, 1, 1, 0, 1)], ["between"])
        self.check(NINE, [box(4, 4), box(4, 5), box(4, 1, 1, 1, 0, 1)], ["between"])
        self.check(NINE, [box(0, 4), box(5, 4, 1, 1, -1)], ["between"])
        self.check(NINE, [box(4, 4, 1, 1, 1), box(3, 4, 1, 1, 1)], ["between"])

    def test_that_is_touched_by_one_that_goes_away_at_nought(self):
        self.check(NINE, [box(4, 4), box(5, 4, 1, 1, 1), box(3, 4, 1, 1, 1)], ["between"])
        self.check(NINE, [box(4, 4, 1, 1, -1), box(5, 4, 1, 1, -1), box(3, 4, 1, 1, 0)], ["between"])

    def test_between_two_walls(self):
        self.check(NINE, [box(0, 3, 9, 1, 1, 0)], ["between"])
        self.check(NINE, [box(0, 3, 9, 1, -1, 0)], ["between"])
        self.check(NINE, [box(3, 0, 1, 9, 0, 1)], ["between"])
        # Along it goes as any other one.
        self.assertEqual(run_in(NINE, [box(0, 3, 9, 1, 0, 1)], 1)[1], [((5, 1), "along", 0, -2)])

    def test_corner_to_corner_and_one_has_a_meeting(self):
        self.check(NINE, [box(4, 4), box(5, 5), box(1, 4, 1, 1, 1)], ["corner"])
        self.check(NINE, [box(4, 4), box(3, 3), box(4, 8, 1, 1, 0, -1)], ["corner"])
        self.check(NINE, [box(0, 4, 1, 1, -1), box(1, 5)], ["corner"])
        # The corner is there just then.
        self.check(NINE, [box(4, 4), box(1, 4, 1, 1, 1), box(7, 5, 1, 1, -1)], ["corner"])

    def test_corner_to_corner_and_they_close_both_ways(self):
        for right in (-1, 1):
            for up in (-1, 1):
                self.check(NINE, [box(4, 4), box(4 - 3 * right, 4 - 3 * up, 1, 1, right, up)], ["close"])
                self.check(NINE, [box(4, 4), box(4 - right, 4 - up, 1, 1, right, up)], ["close"])
                self.check(NINE, [box(4, 4, 1, 1, -right, 0), box(4 - right, 4 - up, 1, 1, 0, up)], ["close"])

    def test_corner_to_corner_without_either(self):
        for speeds in [(0, 0), (1, 0), (0, 1), (-1, 1), (1, -1), (-1, -2), (-2, -1)]:
            boxes = [box(3, 3, 1, 1, *speeds), box(4, 4)]
            told = run_in(NINE, boxes, 1)
            self.assertNotEqual(told[0], "crowd")
            self.assertEqual(kinds(told), kinds(plain_run_in(NINE, boxes, 1)[0]))

    def test_meetings_of_the_same_moment_are_not_done(self):
        boxes = [box(4, 4, 1, 1, 1, 1), box(0, 2, 1, 1, Fraction(1, 4)), box(7, 2, 1, 1, Fraction(-5, 4))]
        self.check(NINE, boxes, ["two"])
        self.assertEqual(run_in(NINE, boxes[1:], 1)[1], [((4, 1), "across", 0, 1)])

    def test_behind_other_moments(self):
        # Off the left wall at 1, then into a corner of the room at 9.
        self.check(NINE, [box(1, 4, 1, 1, -1, Fraction(4, 9))], ["two"], 1)
        # Two meet at 1, one of them comes to the wall at 2, and at 3 a third one to a fourth one.
        boxes = [box(4, 4), box(5, 5), box(0, 4, 1, 1, 1), box(0, 0, 1, 1, 1), box(3, 0, 1, 1, -1)]
        self.check(NINE, boxes, ["corner"], 2)

    def test_touched_at_the_same_side_is_none(self):
        # Another one stands level at the same side, and goes away as fast.
        boxes = [box(3, 3, 1, 4, 1), box(4, 3, 1, 1, 0), box(4, 5, 1, 1, 1)]
        told = run_in(NINE, boxes, 1)
        self.assertEqual(told[1], [((0, 1), "across", 0, 1)])

    def test_touched_across_by_one_that_meets_along_is_none(self):
        # The one meets the upper wall; at its side, across, stands another one.
        boxes = [box(3, 6, 1, 1, 0, 1), box(4, 7, 1, 2)]
        self.assertEqual(run_in(NINE, boxes, 1)[1], [((2, 1), "along", 0, -2)])


class Refusals(unittest.TestCase):
    GOOD = [box(1, 1), box(3, 1)]

    def no_box(self, walls, boxes):
        with self.subTest(walls=walls, boxes=boxes):
            for most in (0, 1, 40, 41, None):
                with self.assertRaises(NoBox):
                    run_in(walls, boxes, most)

    def overlapping(self, boxes, one, other, walls=NINE):
        for most in [0, 40] + NO_NUMBERS:
            with self.assertRaises(Overlap) as taken:
                run_in(walls, boxes, most)
            self.assertEqual(kinds((taken.exception.one, taken.exception.other)), kinds((one, other)))

    def test_no_room(self):
        no_rooms = [thing for thing in ODD_THINGS if thing != ((1, 1), (1, 1))] + WHOLE_NUMBERS
        no_rooms += [room(0, 1), room(1, 0), room(-1, 5), [(9, 1), (9, 1)], ((9, 1),), ((9, 1), (9, 1), (9, 1)), (9, 9)]
        for walls in no_rooms:
            for boxes in (self.GOOD, [], None, [box(1, 1), box(1, 1)]):
                self.no_box(walls, boxes)

    def test_no_list_of_boxes(self):
        for boxes in ODD_THINGS + WHOLE_NUMBERS + [tuple(self.GOOD), box(1, 1), {0: box(1, 1)}]:
            self.no_box(NINE, boxes)
        for thing in ODD_THINGS + WHOLE_NUMBERS + [list(box(1, 1)), box(1, 1, 0, 1), box(1, 1, 1, -1), box(1, 1)[:6]]:
            self.no_box(NINE, [thing])
            self.no_box(NINE, self.GOOD + [thing])
            self.no_box(NINE, [thing] + self.GOOD)

    def test_none_six_and_seven(self):
        row = [box(k, 0) for k in range(7)]
        self.no_box(NINE, [])
        self.no_box(NINE, row)
        self.no_box(NINE, [box(0, 0)] * 7)
        self.assertEqual(run_in(NINE, row[:6], 40), ("still", [], row[:6], (0, 1)))

    def test_beyond_each_wall(self):
        small = Fraction(1, LONGER)
        for left, low in [(-1, 1), (-small, 1), (8 + small, 1), (9, 1), (1, -small), (1, -1), (1, 8 + small), (20, 20)]:
            self.no_box(NINE, [box(left, low)])
            self.no_box(NINE, [box(4, 4), box(left, low)])
        self.no_box(NINE, [box(0, 0, 9 + small, 1)])
        self.no_box(NINE, [box(0, 0, 1, 9 + small)])

    def test_just_touching_a_wall(self):
        for one in [box(0, 1), box(8, 1), box(1, 0), box(1, 8), box(0, 0), box(8, 8), box(0, 0, 9, 9)]:
            self.assertEqual(run_in(NINE, [one], 40)[0], "still")

    def test_a_box_beyond_goes_ahead_of_two_that_overlap(self):
        self.no_box(NINE, [box(1, 1), box(1, 1), box(9, 9)])
        self.no_box(NINE, [box(1, 1), box(1, 1), None])

    def test_the_first_two_that_overlap(self):
        self.overlapping([box(1, 1), box(1, 1)], 0, 1)
        self.overlapping([box(1, 1, 2, 2), box(5, 5), box(2, 2, 2, 2), box(5, 5)], 0, 2)
        self.overlapping([box(1, 1, 2, 2), box(5, 5), box(5, 5), box(2, 2, 2, 2)], 0, 3)
        self.overlapping([box(7, 7), box(5, 5), box(1, 1), box(1, 1), box(5, 5)], 1, 4)
        self.overlapping([box(k, 0) for k in range(5)] + [box(Fraction(7, 2), 0)], 3, 5)
        self.overlapping([box(4, 4)] * 6, 0, 1)

    def test_touching_is_no_overlap(self):
        self.assertEqual(run_in(NINE, [box(1, 1), box(2, 1), box(1, 2), box(2, 2)], 40)[0], "still")

    def test_no_number_of_moments(self):
        for boxes in (self.GOOD, [box(1, 1, 1, 1, 1, 1)]):
            for most in NO_NUMBERS:
                with self.assertRaises(TooMany):
                    run_in(NINE, boxes, most)

    def test_each_number_from_0_to_40_is_one(self):
        whole = run_in(room(5, 4), [box(1, 1, 1, 1, 1, 0)], 40)
        for most in range(41):
            told = run_in(room(5, 4), [box(1, 1, 1, 1, 1, 0)], most)
            self.assertEqual((told[0], told[1]), ("more", whole[1][:most]))


class AgainstTheWords(unittest.TestCase):
    def test_by_chance(self):
        words = {"still": 0, "more": 0, "crowd": 0}
        sorts = {"two": 0, "between": 0, "corner": 0, "close": 0}
        for walls, boxes in rooms_by_chance(84, 40):
            for most in (1, 9):
                told = run_in(walls, boxes, most)
                right, found = plain_run_in(walls, boxes, most)
                with self.subTest(walls=walls, boxes=boxes, most=most):
                    self.assertEqual(kinds(told), kinds(right))
                words[told[0]] += 1
                if told[0] == "crowd" and len(found) == 1:
                    sorts[found.pop()] += 1
        self.assertGreater(min(words.values()), 3, words)
        self.assertGreater(min(sorts.values()), 3, sorts)

    def test_six_through_forty_moments(self):
        chance = random.Random(85)
        boxes = boxes_by_chance(chance, 6, 9, 9, 7, 9, 1000)
        told = run_in(NINE, boxes, 40)
        self.assertEqual((told[0], len(boxes)), ("more", 6))
        self.assertEqual(kinds(told), kinds(plain_run_in(NINE, boxes, 40)[0]))

    def test_fractions_of_four_hundred_figures(self):
        chance = random.Random(86)
        size = 10 ** 399
        boxes = []
        for left, low in [(1, 1), (20, 2), (3, 20)]:
            parts = [Fraction(chance.randint(1, size), chance.randint(size, 2 * size)) for _ in range(6)]
            boxes.append(box(left + parts[0], low + parts[1], 9 + parts[2], 9 + parts[3], parts[4], parts[5], 7))
        self.assertEqual(kinds(run_in(room(40, 40), boxes, 5)), kinds(plain_run_in(room(40, 40), boxes, 5)[0]))


class Promises(unittest.TestCase):
    def walks(self, seed):
        """For rooms by chance the boxes just behind each moment, with the time to the next one."""
        for walls, boxes in rooms_by_chance(seed, 4):
            told = [run_in(walls, boxes, most) for most in range(9)]
            yield walls, [(now[2], free(later[3]) - free(now[3])) for now, later in zip(told, told[1:])]

    def test_nobody_leaves_and_no_two_overlap(self):
        for walls, walk in self.walks(87):
            for boxes, time in walk:
                for part in (0, Fraction(1, 3), HALF, 1):
                    now = [one.bound() for one in gone([Free(one) for one in boxes], time * part)]
                    for k, one in enumerate(now):
                        self.assertFalse(any(overlap(one, other) for other in now[:k]))
                        for way in (0, 1):
                            self.assertGreaterEqual(free(one[way]), 0)
                            self.assertLessEqual(free(one[way]) + free(one[2 + way]), free(walls[way]))

    def test_might_stays(self):
        for walls, walk in self.walks(88):
            sums = {sum(one[6] * (free(one[4]) ** 2 + free(one[5]) ** 2) for one in boxes) for boxes, time in walk}
            self.assertEqual(len(sums), 1)

    def test_sizes_and_weights_stay(self):
        for walls, walk in self.walks(89):
            self.assertEqual(len({tuple(one[2:4] + one[6:] for one in boxes) for boxes, time in walk}), 1)

    def test_one_row_across_is_a_line_between_two_walls(self):
        chance = random.Random(90)
        words = set()
        worlds = [[body(5, 1), body(10, 0, 5), body(15, -1)], [body(2, -1), body(4, -2)]]
        for count in [1, 2, 3, 4, 5, 6] * 5:
            places = sorted(chance.sample(range(1, 30), count))
            worlds.append([body(place, chance.randint(-3, 3), chance.randint(1, 9)) for place in places])
        for world in worlds:
            sizes = [Fraction(chance.randint(1, 6), 6) for _ in world]
            boxes = in_a_row(world, sizes)
            for most in (0, 1, 5, 15):
                told = run_in(room(30 + sum(sizes), 5), boxes, most)
                line = plain_course(world, most, near=0, far=30)
                words.add(told[0])
                self.assertEqual((told[0], told[3]), (line[0], line[3]))
                numbers = [(met[0], met[2], met[3] if met[3] >= 0 else len(world)) for met in told[1]]
                self.assertEqual(sorted(numbers), sorted((moment, k, k + 1) for moment, place, k in line[1]))
                self.assertEqual(told[2], in_a_row(line[2], sizes))
        self.assertEqual(words, {"still", "more", "crowd"})

    def test_one_row_far_from_the_right_wall_is_a_walled_run(self):
        for light, heavy in [(1, 1), (1, 3), (2, 9), (1, 50)]:
            bodies = [body(1, 0, light), body(3, -1, heavy)]
            boxes = [box(1, 2, 5, 1, 0, 0, light), box(8, 2, 7, 1, -1, 0, heavy)]
            told, line = run_in(room(10 ** 9, 3), boxes, 3), walled_run(bodies, 3)
            numbers = [(met[0], met[2], met[3]) for met in told[1]]
            self.assertEqual(numbers, [(moment, k, k + 1) for moment, place, k in line[1]])
            self.assertEqual([one[4] for one in told[2]], [one[1] for one in line[2]])

    def test_across_and_along_exchanged(self):
        for walls, boxes in rooms_by_chance(91, 5):
            told = run_in(walls, boxes, 7)
            other = run_in(walls[::-1], [exchanged(one) for one in boxes], 7)
            self.assertEqual((told[0], told[3]), (other[0], other[3]))
            self.assertEqual(told[2], [exchanged(one) for one in other[2]])
            words = {"across": "along", "along": "across"}
            self.assertEqual(sorted(told[1]), sorted((met[0], words[met[1]], *met[2:]) for met in other[1]))

    def test_mirrored(self):
        for walls, boxes in rooms_by_chance(92, 5):
            told = run_in(walls, boxes, 7)
            other = run_in(walls, [mirrored_box(one, walls) for one in boxes], 7)
            self.assertEqual((told[0], told[3]), (other[0], other[3]))
            self.assertEqual(told[2], [mirrored_box(one, walls) for one in other[2]])
            self.assertEqual(sorted(told[1]), sorted(mirrored_meeting(met) for met in other[1]))


def in_a_row(world, sizes):
    """Boxes of one height and one low that go across alone, with bodies that have breadths now."""
    return [
        box(free(place) + sum(sizes[:k]), 1, sizes[k], 2, free(speed), 0, weight)
        for k, (place, speed, weight) in enumerate(world)
    ]


def exchanged(one):
    left, low, wide, high, right, up, weight = one
    return (low, left, high, wide, up, right, weight)


def mirrored_box(one, walls):
    left, low, wide, high, right, up, weight = one
    return (pair(free(walls[0]) - free(left) - free(wide)), low, wide, high, pair(-free(right)), up, weight)


def mirrored_meeting(met):
    moment, way, one, other = met
    if way == "along":
        return met
    return (moment, way, -1 if other == -2 else other, -2 if one == -1 else one)


class NothingElseChanges(unittest.TestCase):
    CASES = [
        (NINE, [box(1, 1, 1, 1, 1, 2), box(5, 5)]), (NINE, [box(1, 1)]), (NINE, [box(4, 4, 1, 1, 1, 1)]),
        (NINE, [box(1, 1), box(1, 1)]), (NINE, []), (None, [box(1, 1)]), ([1], {1: [2]}),
    ]

    def test_what_is_handed_in(self):
        for walls, boxes in self.CASES:
            for most in [0, 1, 5, 40, 41, -1, True, None, "1", [1]]:
                unchanged(self, run_in, walls, boxes, most)

    def test_told_lists_may_be_changed(self):
        for walls, boxes in self.CASES[:3]:
            for most in (0, 1, 5):
                handed = list(boxes)
                told, again = run_in(walls, handed, most), run_in(walls, handed, most)
                for part in (1, 2):
                    self.assertIsNot(told[part], again[part])
                    self.assertIsNot(told[part], handed)
                    told[part].append(None)
                    told[part][0] = None
                self.assertEqual(handed, boxes)
                self.assertEqual(run_in(walls, handed, most), again)
                handed.clear()
                self.assertEqual(run_in(walls, boxes, most), again)


if __name__ == "__main__":
    unittest.main()
