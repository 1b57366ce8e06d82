"""Points 73 to 75, the counts of 9, and points 3 to 5 of counts."""

import random
import unittest
from fractions import Fraction

from knockwright.counts import count_of, turning
from knockwright.errors import NoNumber
from knockwright.walls import walled_run
from tests.samples import HUNDRED, ODD_THINGS, body, free, kinds, unchanged

GREATEST = 100000000


def plain_count(light, heavy):
    """The meetings counted by the speeds alone, in Python's own fractions."""
    left, right = Fraction(0), Fraction(-1)
    count = 0
    while left < 0 or left > right:
        if left > right:
            middle = (light * left + heavy * right) / (light + heavy)
            left, right = 2 * middle - left, 2 * middle - right
        else:
            left = -left
        count += 1
    return count


def plain_turning(light, heavy):
    """The pairs by 74, each out of the one ahead of it by its place."""
    pairs = [(1, 1)]
    while pairs[-1][1] > 0:
        x, y = pairs[-1]
        if len(pairs) % 2 == 1:
            pairs.append((heavy * x - light * y, x + y))
        else:
            pairs.append((x - light * y, x + heavy * y))
    return pairs


def walled_count(light, heavy, place=1, start=2, speed=-1):
    """How many meetings the run has, and its bodies; None for the count where it isn't at its end."""
    word, run, bodies, moment = walled_run([body(place, 0, light), body(start, speed, heavy)], 40)
    return (len(run) if word == "still" else None), bodies


class Counts(unittest.TestCase):
    def test_that_the_document_tells(self):
        self.assertEqual(kinds([count_of(1, 1), count_of(1, 100), count_of(1, 10000)]), kinds([3, 31, 314]))

    def test_small_weights(self):
        for light in range(1, 30):
            for heavy in range(1, 60):
                self.assertEqual(kinds(count_of(light, heavy)), kinds(plain_count(light, heavy)))

    def test_light_ones_heavier_than_the_heavy_ones(self):
        for light, heavy, count in [(2, 1, 3), (3, 2, 3), (3, 1, 2), (4, 1, 2), (1000, 1, 2), (GREATEST, 1, 2)]:
            self.assertEqual(plain_count(light, heavy), count)
            self.assertEqual(count_of(light, heavy), count)

    def test_beside_weights_where_both_go_away_with_one_speed(self):
        self.assertEqual([count_of(100, heavy) for heavy in (99, 100, 101)], [3, 3, 4])
        self.assertEqual([count_of(100, heavy) for heavy in (299, 300, 301)], [5, 5, 6])
        self.assertEqual([count_of(light, 100) for light in (299, 300, 301)], [3, 2, 2])

    def test_great_weights(self):
        for light, heavy in [
            (GREATEST, GREATEST), (GREATEST, 1), (GREATEST, GREATEST - 1), (10000, GREATEST), (10001, GREATEST),
            (99999999, GREATEST), (1000000, GREATEST), (1, 9999), (7, 70000), (9999, 99990000), (9999, 99989999),
        ]:
            self.assertEqual(kinds(count_of(light, heavy)), kinds(plain_count(light, heavy)))

    def test_by_chance(self):
        chance = random.Random(73)
        for _ in range(40):
            light = chance.randint(1, GREATEST)
            heavy = chance.randint(1, min(GREATEST, 10000 * light))
            self.assertEqual(count_of(light, heavy), plain_count(light, heavy))
            light = chance.randint(1, 10000)
            heavy = chance.randint(1, 10000 * light)
            self.assertEqual(count_of(light, heavy), plain_count(light, heavy))

    def test_the_figures_of_a_circle(self):
        self.assertEqual([count_of(k, 100 * k) for k in (1, 3, 1000000)], [31] * 3)
        self.assertEqual([count_of(k, 10000 * k) for k in (1, 3, 10000)], [314] * 3)


class Turning(unittest.TestCase):
    def check(self, light, heavy, pairs):
        self.assertEqual(kinds(turning(light, heavy)), kinds(pairs))
        self.assertEqual(plain_turning(light, heavy), pairs)

    def test_pair_by_pair(self):
        self.check(1, 1, [(1, 1), (0, 2), (-2, 2), (-4, 0)])
        self.check(1, 2, [(1, 1), (1, 2), (-1, 5), (-7, 4), (-11, 1), (-23, -10)])
        self.check(1, 3, [(1, 1), (2, 2), (0, 8), (-8, 8), (-16, 16), (-64, 0)])
        self.check(2, 1, [(1, 1), (-1, 2), (-5, 1), (-7, -4)])
        self.check(1000, 1, [(1, 1), (-999, 2), (-2999, -997)])

    def test_against_the_rule(self):
        chance = random.Random(74)
        weights = [(light, heavy) for light in range(1, 12) for heavy in range(1, 24)]
        weights += [(chance.randint(1, GREATEST), chance.randint(1, 10000)) for _ in range(20)]
        weights += [(1, 10000), (10000, GREATEST), (GREATEST, GREATEST), (GREATEST, 1)]
        for light, heavy in weights:
            self.assertEqual(kinds(turning(light, heavy)), kinds(plain_turning(light, heavy)))

    def test_its_end(self):
        for light in range(1, 20):
            for heavy in range(1, 40):
                pairs = turning(light, heavy)
                self.assertEqual(pairs[0], (1, 1))
                self.assertTrue(all(y > 0 for x, y in pairs[:-1]))
                self.assertLessEqual(pairs[-1][1], 0)
                self.assertEqual(count_of(light, heavy), len(pairs) - 1)

    def test_an_end_at_nought(self):
        # With these weights the light one stands at last, or both go away with one speed.
        for light, heavy, stands in [(1, 1, True), (1, 3, True), (5, 15, True), (3, 1, False), (999, 333, False)]:
            self.assertEqual(turning(light, heavy)[-1][1], 0)
            speeds = [one[1] for one in walled_count(light, heavy)[1]]
            self.assertEqual((speeds[0] == (0, 1), speeds[0] == speeds[1]), (stands, not stands))


class AgainstRuns(unittest.TestCase):
    def test_counts_of_runs(self):
        for light, heavy in [
            (1, 1), (1, 2), (2, 1), (1, 3), (3, 1), (1, 4), (7, 5), (1, 16), (1, 50), (1, 100), (1, 150), (1000, 1),
            (1, 161), (10, 1000), (999, 1000), (1000, 999), (6, 1000), (1000, 1000), (13, 700),
        ]:
            count, bodies = walled_count(light, heavy)
            self.assertEqual(count, count_of(light, heavy), (light, heavy))

    def test_where_and_how_fast_says_nothing(self):
        chance = random.Random(75)
        for light, heavy in [(1, 1), (2, 1), (1, 3), (3, 7), (1, 20), (1, 90), (900, 7)]:
            for _ in range(6):
                place = Fraction(chance.randint(1, 500), chance.randint(1, 50))
                start = place + Fraction(chance.randint(1, 500), chance.randint(1, 50))
                speed = -Fraction(chance.randint(1, 500), chance.randint(1, 50))
                self.assertEqual(walled_count(light, heavy, place, start, speed)[0], count_of(light, heavy))

    def test_no_sooner_does_the_run_end(self):
        for light, heavy in [(1, 1), (1, 3), (5, 100), (40, 3)]:
            count = count_of(light, heavy)
            world = [body(1, 0, light), body(2, -1, heavy)]
            self.assertEqual([walled_run(world, most)[0] for most in range(count)], ["more"] * count)
            self.assertEqual(walled_run(world, count)[0], "still")

    def test_behind_the_last_one_both_go_away(self):
        for light in (1, 2, 3, 50, 999):
            for heavy in (1, 2, 3, 77, 1000):
                count, bodies = walled_count(light, heavy)
                if count is not None:
                    self.assertGreaterEqual(free(bodies[0][1]), 0)
                    self.assertGreaterEqual(free(bodies[1][1]), free(bodies[0][1]))


class WeightsOtherwise(unittest.TestCase):
    def test_more_weight_of_the_heavy_one(self):
        for light in (1, 3, 10, 777):
            counts = [count_of(light, heavy) for heavy in range(1, 400, 3)]
            self.assertEqual(counts, sorted(counts))
        counts = [count_of(1, heavy) for heavy in range(9700, 10001, 20)]
        self.assertEqual(counts, sorted(counts))

    def test_both_weights_so_many_times_greater(self):
        for light, heavy in [(1, 1), (1, 3), (2, 1), (7, 90), (1, 10000), (9, 4)]:
            for times in (2, 7, 1000, 10000):
                self.assertEqual(count_of(light * times, heavy * times), count_of(light, heavy))


class Refusals(unittest.TestCase):
    def check(self, light, heavy):
        for deed in (count_of, turning):
            with self.subTest(light=light, heavy=heavy), self.assertRaises(NoNumber):
                deed(light, heavy)

    def test_no_whole_numbers_in_either_place(self):
        for thing in ODD_THINGS + [(1, 1), (2, 1)]:
            for number in (0, 1, 100, GREATEST):
                self.check(thing, number)
                self.check(number, thing)
            self.check(thing, thing)
            self.check(thing, None)

    def test_below_1_and_beyond_the_greatest(self):
        for number in (0, -1, -GREATEST, GREATEST + 1, HUNDRED, -HUNDRED):
            for good in (1, 20000, GREATEST):
                self.check(number, good)
                self.check(good, number)
            self.check(number, number)

    def test_ten_thousand_times_and_more(self):
        for light in (1, 2, 77, 9999):
            self.assertGreater(count_of(light, 10000 * light), 300)
            self.assertEqual(turning(light, 10000 * light)[0], (1, 1))
            self.check(light, 10000 * light + 1)
        self.check(9999, GREATEST)
        self.check(1, GREATEST)
        self.assertEqual(count_of(10000, GREATEST), 314)


class NothingElseChanges(unittest.TestCase):
    def test_asked_again(self):
        for light, heavy in [(1, 1), (1, 100), (5, 3), (0, 1), (None, 1), ([1], {1: 2}), (True, True)]:
            unchanged(self, count_of, light, heavy)
            unchanged(self, turning, light, heavy)

    def test_a_told_list_may_be_changed(self):
        told = turning(1, 3)
        whole = list(told)
        self.assertIsNot(turning(1, 3), turning(1, 3))
        told.clear()
        self.assertEqual((turning(1, 3), count_of(1, 3)), (whole, 5))


if __name__ == "__main__":
    unittest.main()
