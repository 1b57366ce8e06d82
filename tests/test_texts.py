"""Point 13, and points 3 to 5 of texts."""

import random
import re
import unittest
from fractions import Fraction

from knockwright.errors import NoText, TooMany
from knockwright.texts import read_world, show_world
from knockwright.worlds import is_world
from tests.samples import ODD_THINGS, WHOLE_NUMBERS, body, kinds, row_of, unchanged, world_by_chance, world_of

NINES = 10 ** 100 - 1      # a hundred figures
BEYOND = 10 ** 100         # a hundred and one
FEW = "-3/2 5 7\n0 -1/3 1000\n12 0 1"

LINE = re.compile(r"(?P<place>\S+) (?P<speed>\S+) (?P<weight>[1-9][0-9]{0,3})", re.ASCII)
NUMBER = re.compile(r"(0|-?[1-9][0-9]{0,99})(/([1-9][0-9]{0,99}))?", re.ASCII)


def number_of(word):
    """The number that a word tells, by the words of point 13; None of every other word."""
    found = NUMBER.fullmatch(word)
    if found is None:
        return None
    number = Fraction(word)
    same = str(number) == word
    return number if same else None


def told_of(text):
    """The world that a text tells, or the number of its first wrong line."""
    world = []
    for count, line in enumerate(text.split("\n")):
        found = LINE.fullmatch(line)
        if found is None or count == 12:
            return count
        place, speed = number_of(found["place"]), number_of(found["speed"])
        if place is None or speed is None or int(found["weight"]) > 1000:
            return count
        if world and place <= Fraction(*world[-1][0]):
            return count
        world.append(body(place, speed, int(found["weight"])))
    return world


class Refusing(unittest.TestCase):
    def refused(self, line, text):
        with self.subTest(text=text):
            with self.assertRaises(NoText) as taken:
                read_world(text)
            self.assertEqual(kinds(taken.exception.line), kinds(line))


class Showing(unittest.TestCase):
    def test_by_hand(self):
        for world, text in [
            (world_of((0, 0)), "0 0 1"),
            (world_of((-1, 2, 1000)), "-1 2 1000"),
            (world_of((Fraction(1, 2), Fraction(-7, 3), 10)), "1/2 -7/3 10"),
            (world_of((Fraction(-3, 2), 5, 7), (0, Fraction(-1, 3), 1000), (12, 0)), FEW),
        ]:
            self.assertEqual(show_world(world), text)

    def test_twelve_bodies(self):
        self.assertEqual(show_world(row_of(12)), "\n".join(str(place) + " 0 1" for place in range(12)))

    def test_worlds_by_chance(self):
        chance = random.Random(13)
        for count in range(1, 13):
            for _ in range(10):
                world = world_by_chance(chance, count, 10 ** chance.randint(0, 90), 10 ** chance.randint(0, 90))
                rows = [(Fraction(*place), Fraction(*speed), weight) for place, speed, weight in world]
                text = show_world(world)
                self.assertEqual(text, "\n".join(" ".join(str(word) for word in row) for row in rows))
                self.assertEqual(kinds(read_world(text)), kinds(world))

    def test_a_hundred_figures(self):
        for number in (NINES, -NINES, 10 ** 99, -10 ** 99):
            for thing in [(number, 1), (number, 10 ** 99 + 9), (1, abs(number)), (-1, abs(number))]:
                for world in ([(thing, (0, 1), 1)], [((0, 1), thing, 1000)], [(thing, thing, 1)]):
                    if is_world(world):
                        self.assertEqual(kinds(read_world(show_world(world))), kinds(world))

    def test_a_hundred_and_one_figures(self):
        for number in (BEYOND, BEYOND + 1, 10 ** 101 - 1, 10 ** 199 + 1, 10 ** 200 - 1):
            for thing in [(number, 1), (-number, 1), (1, number), (-1, number), (number, number + 1)]:
                for world in ([(thing, (0, 1), 1)], [((0, 1), thing, 1)], [(thing, thing, 1)]):
                    self.assertTrue(is_world(world))
                    self.assertRaises(TooMany, show_world, world)

    def test_a_hundred_and_one_figures_in_any_line(self):
        for number in range(12):
            world = row_of(12)
            world[number] = (world[number][0], (-BEYOND, 1), 1)
            self.assertRaises(TooMany, show_world, world)
            world[number] = (world[number][0], (-NINES, 1), 1)
            self.assertEqual(read_world(show_world(world)), world)

    def test_longer_than_python_writes_at_once(self):
        self.assertRaises(TooMany, show_world, [body(10 ** 6000)])

    def test_nothing_is_changed(self):
        for world in [row_of(1), row_of(12), world_of((1, 2, 3), (4, -5, 6)), [body(BEYOND)]]:
            unchanged(self, show_world, world)


class Reading(Refusing):
    def test_by_hand(self):
        self.assertEqual(kinds(read_world("0 0 1")), kinds([((0, 1), (0, 1), 1)]))
        self.assertEqual(
            kinds(read_world(FEW)),
            kinds([((-3, 2), (5, 1), 7), ((0, 1), (-1, 3), 1000), ((12, 1), (0, 1), 1)]),
        )

    def test_the_told_list_is_a_new_one(self):
        first = read_world(FEW)
        second = read_world(FEW)
        self.assertIsNot(first, second)
        first.clear()
        self.assertEqual(len(second), 3)
        self.assertEqual(read_world(FEW), second)

    def test_more_than_the_told_signs(self):
        world = [body(Fraction(10 ** 99 + k, 10 ** 99 - 1), Fraction(-NINES, 10 ** 99 + 1), 999) for k in range(1, 13)]
        world = [one for one in world if one[0][1] > 1]
        self.assertGreater(len(show_world(world)), 3000)
        self.assertEqual(read_world(show_world(world)), world)

    def test_what_is_no_text(self):
        for thing in ODD_THINGS + WHOLE_NUMBERS + [row_of(1), ["0 0 1"], ("0 0 1",), {"0 0 1": 1}]:
            if not isinstance(thing, str):
                self.refused(0, thing)

    def test_other_texts(self):
        for thing in ODD_THINGS:
            if isinstance(thing, str):
                self.refused(0, thing)

    def test_an_empty_text_and_empty_lines(self):
        self.refused(0, "")
        self.refused(0, "\n")
        self.refused(0, "\n0 0 1")
        self.refused(1, "0 0 1\n")
        self.refused(1, "0 0 1\n\n1 0 1")
        self.refused(3, FEW + "\n")
        self.refused(3, FEW + "\n\n")
        self.refused(12, show_world(row_of(12)) + "\n")

    def test_words_that_tell_no_number(self):
        wrong = [
            "", "00", "01", "-0", "-01", "-", "--1", "+1", "1/1", "-1/1", "0/1", "0/2", "1/0", "2/4", "-3/6", "4/2",
            "1/-2", "-1/-2", "1/02", "01/2", "-0/2", "/", "1/", "/2", "1/2/3", "1//2", "1.5", "1e3", "1_000", "x",
            "0x1", "1,5", "\u0663", "\u00b2", "1\u0663", "\uff11", "1\u00a0", "\t1", "1\t", "1\r", "'1'", "(1,", "1-",
            str(BEYOND), str(-BEYOND), "1/" + str(BEYOND), "0" * 100, "0" * 101, "1" * 2000, "1/" + "3" * 2000,
        ]
        for word in wrong:
            self.refused(0, word + " 0 1")
            self.refused(0, "0 " + word + " 1")
            self.refused(1, "-2000 0 1\n" + word + " 0 1\n5000 0 1")
            self.refused(2, "0 0 1\n1 1 1\n2 " + word + " 1")

    def test_weights(self):
        for weight in ("1", "9", "10", "999", "1000"):
            self.assertEqual(read_world("0 0 " + weight), [body(0, 0, int(weight))])
        wrong = ["0", "1001", "-1", "-1000", "01", "1/1", "1/2", "2/1", "+1", "", "x", "-0", "0001", "10000", "\u0661",
                 "1.0", "1" * 101, str(BEYOND), "1" * 2000, "1 ", " 1", "1\t", "True", "None"]
        for weight in wrong:
            self.refused(0, "0 0 " + weight)
            self.refused(1, "0 0 1\n3 0 " + weight)

    def test_blanks(self):
        for line in [" 0 0 1", "0 0 1 ", "0  0 1", "0 0  1", "0 0", "0", " ", "  ", "0 0 1 1", "0\t0\t1", "0 0 1\r",
                     "0\u00a00 1", "0 0 1\u2028", "0 0 1\x0b", "0 0 1\x0c", "0,0,1", "0 0 1;"]:
            self.refused(0, line)
            self.refused(1, "-7 1 2\n" + line)
            self.refused(0, line + "\n5 1 2")
        self.refused(0, "0 0 1\r\n1 0 1")
        self.refused(0, "0 0 1\u20281 0 1")

    def test_places_that_are_not_greater(self):
        self.refused(1, "0 0 1\n0 0 1")
        self.refused(1, "0 0 1\n-1 0 1")
        self.refused(2, "0 0 1\n1/2 0 1\n1/3 0 1")
        self.refused(2, "-1 0 1\n-1/2 0 1\n-2/3 0 1")
        self.refused(1, "5 0 1\n5 1 2\n6 0 1")
        self.assertEqual(read_world("1/3 0 1\n1/2 0 1"), world_of((Fraction(1, 3), 0), (Fraction(1, 2), 0)))

    def test_a_line_said_twice(self):
        lines = show_world(row_of(11)).split("\n")
        for number in range(11):
            self.refused(number + 1, "\n".join(lines[:number + 1] + lines[number:]))

    def test_two_lines_exchanged(self):
        for number in range(11):
            lines = show_world(row_of(12)).split("\n")
            lines[number], lines[number + 1] = lines[number + 1], lines[number]
            self.refused(number + 1, "\n".join(lines))

    def test_thirteen_lines_and_more(self):
        for count in (13, 14, 30):
            self.refused(12, "\n".join(str(place) + " 0 1" for place in range(count)))
        self.refused(12, show_world(row_of(12)) + "\nno line")
        lines = [str(place) + " 0 1" for place in range(13)]
        self.refused(11, "\n".join(lines[:11] + ["10 0 1", "12 0 1"]))
        self.refused(5, "\n".join(lines[:5] + ["5 0 0"] + lines[6:]))

    def test_the_first_wrong_line_is_told(self):
        self.refused(1, "0 0 1\n0 0 1\n0 0 0")
        self.refused(1, "0 0 1\n1 0 0\n1 0 1")
        self.refused(0, "x\ny\nz")

    def test_nothing_is_changed(self):
        for text in ODD_THINGS + [FEW, "0 0 1\n", "x"]:
            unchanged(self, read_world, text)


class OneSignOff(Refusing):
    SIGNS = "0123456789-/ \n+.axA\t\r\u0663\u00b2\u00a0"

    def check(self, text):
        told = told_of(text)
        if isinstance(told, int):
            self.refused(told, text)
        else:
            self.assertEqual(kinds(read_world(text)), kinds(told))
            self.assertEqual(show_world(told), text)

    def texts(self):
        twelve = "\n".join(str(place) + " -1/2 1000" for place in range(-6, 6))
        return [FEW, "0 0 1", "-10/3 100 10\n7/2 -1/10 1", twelve]

    def test_as_it_is(self):
        for text in self.texts():
            self.check(text)

    def test_one_put_in(self):
        for text in self.texts():
            for spot in range(len(text) + 1):
                for sign in self.SIGNS:
                    self.check(text[:spot] + sign + text[spot:])

    def test_one_left_out(self):
        for text in self.texts():
            for spot in range(len(text)):
                self.check(text[:spot] + text[spot + 1:])

    def test_one_exchanged(self):
        for text in self.texts():
            for spot in range(len(text)):
                for sign in self.SIGNS:
                    self.check(text[:spot] + sign + text[spot + 1:])


if __name__ == "__main__":
    unittest.main()
