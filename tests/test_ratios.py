"""Points 2, 3, 4, 5 and 11 of fractions, and the first sentence of 13."""

import random
import unittest
from fractions import Fraction

from knockwright.errors import NoNumber
from knockwright.ratios import fraction, is_fraction, minus, over, plus, shown, times, under
from tests.samples import HUNDRED, LONG, LONGER, ODD_THINGS, WHOLE_NUMBERS, pair, unchanged

TOPS = [0, 1, -1, 2, -2, 6, 9, -12, 35, 360, LONG, -LONG, 2 * LONG, LONGER, -LONGER, LONG * 5 ** 40, HUNDRED]
SAMPLES = [Fraction(top, bottom) for top in TOPS for bottom in (1, 2, 3, 7, 12, LONG, LONGER)]


def plain(case, told):
    """A told fraction: a tuple of two plain whole numbers in lowest terms."""
    case.assertIs(type(told), tuple)
    case.assertEqual([type(part) for part in told], [int, int])
    case.assertTrue(is_fraction(told))
    return told


class IsFraction(unittest.TestCase):
    def test_what_is_one(self):
        for thing in [(0, 1), (1, 1), (-1, 1), (1, 2), (-1, 2), (3, 2), (-7, 3), (8, 9), (HUNDRED, 1)]:
            self.assertIs(is_fraction(thing), True, thing)
        for number in SAMPLES:
            self.assertIs(is_fraction(pair(number)), True, number)

    def test_what_is_not_in_lowest_terms(self):
        for thing in [(2, 2), (2, 4), (-2, 4), (6, 9), (-6, 3), (0, 2), (0, 9), (35, 21), (10, 5)]:
            self.assertIs(is_fraction(thing), False, thing)
        for thing in [(2 * LONG, 2), (LONG, LONG), (LONG, 3), (-LONGER, 7), (5 * LONGER, LONGER), (0, LONG)]:
            self.assertIs(is_fraction(thing), False, thing)

    def test_a_bottom_of_nought_or_below(self):
        for thing in [(0, 0), (1, 0), (-1, 0), (0, -1), (1, -1), (1, -2), (-1, -2), (-3, -1), (1, -LONG)]:
            self.assertIs(is_fraction(thing), False, thing)

    def test_a_truth_is_no_number(self):
        for thing in [(True, 1), (1, True), (False, 1), (True, 2), (True, True), (False, True), (3, True), (0, False)]:
            self.assertIs(is_fraction(thing), False, thing)

    def test_lists_and_tuples_of_other_lengths(self):
        for thing in [[], [0, 1], [1, 2], [(1, 2)], (), (1,), (0,), (1, 2, 3), (0, 1, 1), (1, 2, 1), ((1, 2),)]:
            self.assertIs(is_fraction(thing), False, thing)

    def test_parts_of_another_kind(self):
        for thing in ODD_THINGS:
            self.assertIs(is_fraction((thing, 1)), False, thing)
            self.assertIs(is_fraction((1, thing)), False, thing)
            self.assertIs(is_fraction((thing, thing)), False, thing)

    def test_things_of_every_other_kind(self):
        for thing in ODD_THINGS + WHOLE_NUMBERS:
            self.assertIs(is_fraction(thing), False, thing)

    def test_nothing_is_changed(self):
        for thing in ODD_THINGS:
            unchanged(self, is_fraction, thing)


class Making(unittest.TestCase):
    def test_small_numbers_of_either_sign(self):
        for top in range(-40, 41):
            for bottom in range(-40, 41):
                if bottom != 0:
                    self.assertEqual(plain(self, fraction(top, bottom)), pair(Fraction(top, bottom)))

    def test_the_words_of_the_document(self):
        self.assertEqual(fraction(6, 4), (3, 2))
        self.assertEqual(fraction(6, -4), (-3, 2))
        self.assertEqual(fraction(-6, -4), (3, 2))
        self.assertEqual(fraction(0, -9), (0, 1))
        self.assertEqual(fraction(-8, 2), (-4, 1))

    def test_the_bottom_is_one_where_none_is_told(self):
        for top in TOPS:
            self.assertEqual(plain(self, fraction(top)), (top, 1))

    def test_long_numbers_with_divisors_in_common(self):
        for top in TOPS:
            for bottom in TOPS:
                for shared in (1, -6, LONG, -5 ** 70):
                    if bottom != 0:
                        told = plain(self, fraction(top * shared, bottom * shared))
                        self.assertEqual(told, pair(Fraction(top, bottom)))

    def check_long(self, top, bottom):
        right = Fraction(top, bottom)
        self.assertEqual(fraction(top, bottom), pair(right))
        self.assertIs(is_fraction((top, bottom)), right.denominator == bottom)

    def test_numbers_of_thousands_of_figures(self):
        # What the program told may be handed in again, so numbers may be this long.
        chance = random.Random(11)
        sizes = [1, 300, 3900, 4100, 4300, 9000, 30000]
        for first in sizes:
            for second in sizes:
                one, other = chance.getrandbits(first) + 1, chance.getrandbits(second) + 1
                for times in (1, chance.getrandbits(60) + 1, chance.getrandbits(5000) + 1):
                    self.check_long(one * times, other * times)
                    self.check_long(-other * times, one * times)

    def test_long_numbers_close_to_one_another(self):
        chance = random.Random(12)
        for size in (4100, 9000):
            one = chance.getrandbits(size) + 1
            far = one << 300
            for other in (one, one + 1, one - 1, one * 2, one * 2 + 1, far, far + 2, one + 2 ** (size // 2)):
                self.check_long(one, other)
                self.check_long(other, one)
                self.check_long(-one * 7 ** 900, other * 7 ** 900)

    def test_long_numbers_with_the_most_steps(self):
        row = [1, 1]
        while len(row) < 13000:
            row.append(row[-1] + row[-2])
        for number in (5800, 7000, 12998):
            self.check_long(row[number], row[number + 1])
            self.check_long(row[number + 1] * row[90], row[number] * row[90])

    def test_a_bottom_of_nought(self):
        for top in TOPS:
            with self.assertRaises(NoNumber):
                fraction(top, 0)

    def test_a_thing_of_another_kind_in_either_place(self):
        for thing in ODD_THINGS:
            for handed in [(thing,), (thing, 1), (1, thing), (thing, thing), (thing, 0), (0, thing)]:
                with self.subTest(handed=handed), self.assertRaises(NoNumber):
                    fraction(*handed)

    def test_a_fraction_is_no_whole_number(self):
        for handed in [((1, 2), 1), (1, (1, 2)), ((3, 1),), (1, (1, 1))]:
            with self.subTest(handed=handed), self.assertRaises(NoNumber):
                fraction(*handed)

    def test_nothing_is_changed(self):
        for thing in ODD_THINGS + TOPS:
            unchanged(self, fraction, thing, -6)
            unchanged(self, fraction, -6, thing)


class Reckoning(unittest.TestCase):
    def check(self, one, other):
        first = pair(one)
        second = pair(other)
        self.assertEqual(plain(self, plus(first, second)), pair(one + other))
        self.assertEqual(plain(self, minus(first, second)), pair(one - other))
        self.assertEqual(plain(self, times(first, second)), pair(one * other))
        self.assertIs(under(first, second), one < other)
        if other == 0:
            self.assertRaises(NoNumber, over, first, second)
        else:
            self.assertEqual(plain(self, over(first, second)), pair(one / other))

    def test_small_fractions(self):
        small = sorted({Fraction(top, bottom) for top in range(-6, 7) for bottom in range(1, 7)})
        for one in small:
            for other in small:
                self.check(one, other)

    def test_long_fractions(self):
        for one in SAMPLES[::3]:
            for other in SAMPLES[::4]:
                self.check(one, other)

    def test_fractions_by_chance(self):
        chance = random.Random(20)
        for _ in range(400):
            parts = [chance.randint(-10 ** chance.randint(0, 60), 10 ** chance.randint(0, 60)) for _ in range(4)]
            self.check(Fraction(parts[0], abs(parts[1]) + 1), Fraction(parts[2], abs(parts[3]) + 1))

    def test_told_by_hand(self):
        self.assertEqual(plus((1, 6), (1, 3)), (1, 2))
        self.assertEqual(minus((1, 6), (1, 2)), (-1, 3))
        self.assertEqual(times((-2, 3), (3, 2)), (-1, 1))
        self.assertEqual(over((1, 2), (-3, 4)), (-2, 3))
        self.assertEqual(over((0, 1), (-3, 4)), (0, 1))
        self.assertEqual(minus((5, 7), (5, 7)), (0, 1))

    def test_nothing_is_divided_by_nought(self):
        for one in [(0, 1), (1, 1), (-1, 2), (LONG, 5)]:
            with self.assertRaises(NoNumber):
                over(one, (0, 1))

    def test_less_and_not_alike(self):
        self.assertIs(under((1, 3), (1, 2)), True)
        self.assertIs(under((1, 2), (1, 3)), False)
        self.assertIs(under((1, 2), (1, 2)), False)
        self.assertIs(under((0, 1), (0, 1)), False)
        self.assertIs(under((-1, 2), (-1, 3)), True)
        self.assertIs(under((-1, 3), (-1, 2)), False)
        self.assertIs(under((-1, LONGER), (0, 1)), True)
        self.assertIs(under((LONGER, LONG + 1), (LONGER, LONG + 2)), False)

    def test_what_was_told_is_handed_in_again(self):
        told = (3, 7)
        number = Fraction(3, 7)
        for _ in range(10):
            told = plus(times(told, told), (-1, 2))
            number = number * number - Fraction(1, 2)
        self.assertGreater(told[1].bit_length(), 3000)
        self.assertEqual(plain(self, told), pair(number))
        self.assertEqual(over(told, told), (1, 1))

    def test_the_same_again(self):
        for deed in (plus, minus, times, over, under):
            unchanged(self, deed, (-3, 4), (5, 6))
            unchanged(self, deed, (-3, 4), (0, 1))


class Showing(unittest.TestCase):
    def test_with_the_bottom_one(self):
        for one, text in [((0, 1), "0"), ((1, 1), "1"), ((-1, 1), "-1"), ((10, 1), "10"), ((-1200, 1), "-1200")]:
            self.assertEqual(shown(one), text)

    def test_with_other_bottoms(self):
        for one, text in [((1, 2), "1/2"), ((-1, 2), "-1/2"), ((10, 3), "10/3"), ((-7, 100), "-7/100")]:
            self.assertEqual(shown(one), text)

    def test_as_python_writes_them(self):
        for number in SAMPLES:
            self.assertEqual(shown(pair(number)), str(number))

    def test_at_each_length(self):
        for length in range(1, 400):
            for top in (10 ** length - 1, 10 ** length, 10 ** length + 1):
                self.assertEqual(shown((top, 1)), str(top))
                self.assertEqual(shown((-1, top)), "-1/" + str(top))

    def test_longer_than_python_writes_at_once(self):
        self.assertEqual(shown((10 ** 6000, 1)), "1" + "0" * 6000)
        self.assertEqual(shown((1 - 10 ** 6000, 10 ** 5000)), "-" + "9" * 6000 + "/1" + "0" * 5000)

    def test_the_same_again(self):
        for number in SAMPLES:
            unchanged(self, shown, pair(number))


if __name__ == "__main__":
    unittest.main()
