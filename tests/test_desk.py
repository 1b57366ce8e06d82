"""Points 101 and 102, and points 3 to 5 of the desk."""

import itertools
import random
import unittest
from fractions import Fraction

from knockwright.backs import at, back
from knockwright.clumps import clumps_at, stuck_run
from knockwright.counts import count_of
from knockwright.desk import Desk
from knockwright.errors import Crowd, NoBody, NoMoment, NoNumber, NoRow, NoWorld, TooMany
from knockwright.knocks import meet_of
from knockwright.likes import passed
from knockwright.lines import run_of
from knockwright.papers import first_wrong
from knockwright.rooms import round_of
from knockwright.walls import walled_run
from knockwright.worlds import numbered
from tests.samples import LONG_RUN, ODD_THINGS, THREE, WHOLE_NUMBERS, body, free, pair, row_of, together, world_of

LEFT_AND_RIGHT = ["body 0 1 2", "body 5 -1/2 1"]
# Each row that needs bodies, as it would be answered with some.
NEEDING = [
    "meet 0 0", "run 0", "run 40", "run 41", "at 0", "at -1", "back 1", "back -1/2", "paper 0", "paper 1 1 1 0",
    "likes 0", "likes -1", "round 9", "wall 3", "wall 9999", "stuck", "clumps 0", "clumps -5", "meet 9 9",
]


def word(number):
    """A number as it is written: Python writes its own fractions so."""
    return str(Fraction(*number)) if isinstance(number, tuple) else str(number)


def listed(things):
    return "; ".join(" ".join(word(part) for part in thing) for thing in things) or "none"


def longest(things):
    """How many figures the longest number has, in the two fractions that each of these begins with."""
    return max([len(str(abs(part))) for thing in things for number in thing[:2] for part in number], default=0)


def body_row(one):
    return "body " + listed([one])


def desk_of(*rows):
    desk = Desk()
    for row in rows:
        desk.say(row)
    return desk


def desk_with(world):
    return desk_of(*[body_row(one) for one in world])


def small_worlds(seed, rounds):
    """Worlds that a desk may keep, some of likes, some to the right of a wall, some with crowds."""
    chance = random.Random(seed)
    for _ in range(rounds):
        for count in range(1, 7):
            weight = chance.choice([1, 1, 5, 1000])
            places = chance.sample(range(-9, 10) if chance.random() < 0.5 else range(1, 20), count)
            yield [body(place, chance.randint(-2, 2), chance.randint(1, weight)) for place in sorted(places)]
            places = sorted({Fraction(chance.randint(1, 9999), chance.randint(1, 99)) for _ in range(count)})
            speeds = [Fraction(chance.randint(-99, 99), chance.randint(1, 99)) for _ in places]
            weights = [chance.randint(1, weight) if chance.random() < 0.5 else 3 for _ in places]
            yield [body(place, speed, one) for place, speed, one in zip(places, speeds, weights)]


def outcome(deed, *handed):
    """What is told, or the class of the refusal and what it keeps."""
    try:
        return deed(*handed)
    except (Crowd, NoMoment, NoWorld, TooMany, NoNumber, NoBody, NoRow) as error:
        return (type(error), [part for part in error.args if not isinstance(part, str)])


def short(told):
    """A told text, refused where a number in it has more than a hundred figures."""
    if not isinstance(told, str):
        return told
    figures = told.replace("/", " ").replace("-", "").replace(";", "").split(" ")
    return (TooMany, []) if any(len(part) > 100 for part in figures if part.isdigit()) else told


def expected(row, world):
    """What a desk with these bodies is to answer, or to refuse, by the other modules."""
    first, *words = row.split(" ")
    values = [pair(Fraction(part)) for part in words]
    whole = [value[0] for value in values]
    deeds = {
        "run": lambda: run_told(run_of(world, whole[0])),
        "wall": lambda: run_told(walled_run(world, whole[0])),
        "at": lambda: listed(at(world, values[0])),
        "back": lambda: listed(back(world, values[0])),
        "likes": lambda: listed(passed(world, values[0])),
        "round": lambda: listed([[round_of(world, values[0])]]).replace("None", "none"),
        "stuck": lambda: listed(stuck_run(world)),
        "clumps": lambda: listed(clumps_at(world, values[0])),
        "world": lambda: listed(world),
    }
    return short(outcome(deeds[first]))


def run_told(told):
    return told[0] + " " + listed(told[1])


class DeskCase(unittest.TestCase):
    def answers(self, desk, row, answer):
        with self.subTest(row=row):
            told = desk.say(row)
            self.assertIs(type(told), str)
            self.assertEqual(told, answer)

    def refuses(self, desk, row, kind, at=None):
        ahead = desk.say("world")
        with self.subTest(row=row):
            with self.assertRaises(kind) as taken:
                desk.say(row)
            self.assertIs(type(taken.exception), kind)
            if at is not None:
                self.assertEqual(taken.exception.at, at)
            self.assertEqual(desk.say("world"), ahead)


class Bodies(DeskCase):
    def test_one_more_and_all(self):
        desk = Desk()
        self.answers(desk, "world", "none")
        self.answers(desk, "body 5 -1/2 1", "1")
        self.answers(desk, "world", "5 -1/2 1")
        self.answers(desk, "body 0 1 2", "2")
        self.answers(desk, "world", "0 1 2; 5 -1/2 1")
        self.answers(desk, "body 7/3 -9999/9998 1000", "3")
        self.answers(desk, "world", "0 1 2; 7/3 -9999/9998 1000; 5 -1/2 1")
        self.answers(desk, "body -9999 0 1", "4")
        self.answers(desk, "body 9999 9999 999", "5")
        self.answers(desk, "body -1/9999 1/9999 1", "6")
        self.answers(
            desk, "world", "-9999 0 1; -1/9999 1/9999 1; 0 1 2; 7/3 -9999/9998 1000; 5 -1/2 1; 9999 9999 999",
        )

    def test_clear(self):
        desk = desk_of(*LEFT_AND_RIGHT)
        for _ in range(3):
            self.answers(desk, "clear", "0")
            self.answers(desk, "world", "none")
        self.answers(desk, "body 1 1 1", "1")
        self.answers(desk, "world", "1 1 1")

    def test_no_body(self):
        for desk in (Desk(), desk_of(*LEFT_AND_RIGHT)):
            for row in ["body 1 1 0", "body 1 1 1001", "body 1 1 9999", "body 0 0 0"]:
                self.refuses(desk, row, NoBody)
        self.answers(desk, "body 1 1 1", "3")
        self.answers(desk, "body 2 1 1000", "4")

    def test_a_seventh(self):
        desk = desk_with(row_of(6))
        for row in ["body 9 0 1", "body -9 0 1", "body 3 0 1", "body 1/2 5 1000"]:
            self.refuses(desk, row, TooMany)

    def test_where_another_one_is(self):
        desk = desk_of("body 3 0 1", "body 1 0 1", "body 2 0 1")
        for place, number in [(1, 1), (2, 2), (3, 3)]:
            self.refuses(desk, f"body {place} 5 7", NoWorld, number)
        self.answers(desk, "body 5/2 0 1", "4")
        self.refuses(desk, "body 5/2 0 1", NoWorld, 3)

    def test_which_refusal_goes(self):
        full = desk_with(row_of(6))
        # No body, ahead of a seventh, ahead of one where another one is.
        self.refuses(full, "body 3 0 0", NoBody)
        self.refuses(full, "body 3 0 1001", NoBody)
        self.refuses(full, "body 3 0 1", TooMany)
        self.refuses(full, "body 3 0 -1", NoRow)
        self.refuses(desk_with(row_of(5)), "body 3 0 1001", NoBody)
        self.refuses(desk_with(row_of(5)), "body 3 0 1", NoWorld, 4)

    def test_refused_ones_are_not_kept(self):
        desk = Desk()
        for row in ["body 1 1 0", "body 1 1", "body 1 1 -1", "at 5", "body 1/0 1 1"]:
            with self.assertRaises(ValueError):
                desk.say(row)
        self.answers(desk, "body 1 1 1", "1")
        with self.assertRaises(NoWorld):
            desk.say("body 1 2 2")
        self.answers(desk, "body 2 2 2", "2")
        self.answers(desk, "world", "1 1 1; 2 2 2")

    def test_in_another_order(self):
        rows = [body_row(one) for one in world_of((0, 1, 2), (3, 0, 5), (Fraction(9, 2), -1, 1), (8, -2, 3))]
        asked = ["world", "run 40", "at 3", "back 1/2", "stuck", "clumps 9", "meet 0 3", "paper 9"]
        told = {
            tuple(outcome(desk.say, row) for row in asked)
            for desk in (desk_of(*order) for order in itertools.permutations(rows))
        }
        self.assertEqual(len(told), 1)


class Meet(DeskCase):
    def test_two(self):
        desk = desk_of("body 5 -1/2 1", "body 0 1 2", "body 9 3 7")
        self.answers(desk, "meet 0 1", "10/3 10/3")
        self.answers(desk, "meet 0 2", "never")
        self.answers(desk, "meet 1 2", "never")
        self.answers(desk_of("body -4 1 1", "body -2 -1 1"), "meet 0 1", "1 -3")

    def test_not_at_a_lesser_place(self):
        desk = desk_of("body 5 -1/2 1", "body 0 1 2", "body 9 3 7")
        for one, other in [(0, 0), (1, 0), (2, 0), (2, 1), (2, 2)]:
            self.refuses(desk, f"meet {one} {other}", NoWorld, 1)

    def test_no_such_number(self):
        desk = desk_of("body 5 -1/2 1", "body 0 1 2", "body 9 3 7")
        for one, other in [(0, 3), (3, 0), (3, 3), (9999, 0), (0, 9999), (2, 3)]:
            self.refuses(desk, f"meet {one} {other}", NoBody)

    def test_against_the_rule(self):
        for world in small_worlds(21, 2):
            desk = desk_with(world)
            for one, other in itertools.combinations(range(len(world)), 2):
                met = meet_of(world[one], world[other])
                self.answers(desk, f"meet {one} {other}", "never" if met is None else listed([met]))


class Runs(DeskCase):
    def test_by_hand(self):
        desk = desk_with(THREE)
        self.answers(desk, "run 40", "still 1 1 0; 3/2 3/2 1; 2 1 0")
        self.answers(desk, "run 1", "more 1 1 0")
        self.answers(desk, "run 0", "more none")
        self.answers(desk_of("body 0 0 1"), "run 0", "still none")
        self.answers(desk_of("body 0 0 1"), "run 40", "still none")

    def test_a_crowd(self):
        desk = desk_with(together(0, 1, [1, 0, -1]))
        self.answers(desk, "run 40", "crowd none")
        self.answers(desk, "run 0", "more none")
        desk = desk_with(world_of((-90, 1), (-88, -1)) + together(0, 6, [3, 1, -2]))
        self.answers(desk, "run 9", "crowd 1 -89 0")

    def test_too_many(self):
        for number in (41, 42, 100, 9999):
            for asked in ("run", "wall"):
                self.refuses(desk_with(world_of((1, 0), (2, 0))), f"{asked} {number}", TooMany)

    def test_at_a_wall(self):
        desk = desk_of("body 1 0 1", "body 2 -1 1")
        self.answers(desk, "wall 40", "still 1 1 0; 2 0 -1; 3 1 0")
        self.answers(desk, "wall 2", "more 1 1 0; 2 0 -1")
        self.answers(desk_of("body 1 0 1"), "wall 3", "still none")
        self.answers(desk_with(together(0, 1, [-1, -2])), "wall 3", "crowd none")

    def test_not_to_the_right_of_the_wall(self):
        for row in ("body 0 1 1", "body -1/9 1 1"):
            for most in (0, 40, 41, 9999):
                self.refuses(desk_of(row, "body 7 1 1"), f"wall {most}", NoWorld, 0)

    def test_on_and_back(self):
        desk = desk_of(*LEFT_AND_RIGHT)
        self.answers(desk, "at 0", "0 1 2; 5 -1/2 1")
        self.answers(desk, "at 10/3", "10/3 0 2; 10/3 3/2 1")
        self.answers(desk, "at 4", "10/3 0 2; 13/3 3/2 1")
        self.answers(desk, "back 0", "0 1 2; 5 -1/2 1")
        self.answers(desk, "back 4", "-4 1 2; 7 -1/2 1")

    def test_on_and_back_refused(self):
        desk = desk_with(together(0, 1, [1, 0, -1]))
        for moment in ("-1", "-1/2", "-9999", "-1/9999"):
            self.refuses(desk, "at " + moment, NoMoment)
            self.refuses(desk, "back " + moment, NoMoment)
        for moment in ("1", "9999"):
            self.refuses(desk, "at " + moment, Crowd)
        self.answers(desk, "at 1/2", "-1/2 1 1; 0 0 2; 1/2 -1 3")
        turned = desk_with(together(0, -1, [-1, 0, 1]))
        self.refuses(turned, "back 1", Crowd)
        long_run = desk_with(LONG_RUN)
        self.refuses(long_run, "at 9999", TooMany)
        self.refuses(desk_with(world_of((0, -1, 1000), (1, 0, 1), (4, 1, 1000))), "back 9999", TooMany)

    def test_a_refused_crowd_keeps_what_it_is(self):
        with self.assertRaises(Crowd) as taken:
            desk_with(together(3, 2, [1, 0, -1])).say("at 5")
        error = taken.exception
        self.assertEqual((error.moment, error.place, error.numbers), ((2, 1), (3, 1), (0, 1, 2)))


class Papers(DeskCase):
    def test_right(self):
        desk = desk_with(THREE)
        self.answers(desk, "paper 2 1 1 0; 3/2 3/2 1; 2 1 0", "right")
        self.answers(desk, "paper 9999 1 1 0; 3/2 3/2 1; 2 1 0", "right")
        self.answers(desk, "paper 3/2 1 1 0; 3/2 3/2 1", "right")
        self.answers(desk, "paper 1 1 1 0", "right")
        self.answers(desk, "paper 1/2", "right")
        self.answers(desk, "paper 0", "right")

    def test_wrong_in_each_of_the_words(self):
        desk = desk_with(THREE)
        for row, answer in [
            ("paper 1", "fewer 0"), ("paper 2 1 1 0; 3/2 3/2 1", "fewer 2"), ("paper 1/2 1 1 0", "more 0"),
            ("paper 2 1 1 0; 3/2 3/2 1; 2 1 0; 2 1 0", "more 3"), ("paper 2 2 1 0; 3/2 3/2 1; 2 1 0", "moment 0"),
            ("paper 2 1 1 0; -3/2 3/2 1; 2 1 0", "moment 1"), ("paper 2 1 1 0; 3/2 -3/2 1; 2 1 0", "place 1"),
            ("paper 2 1 1 0; 3/2 3/2 1; 2 1 9999", "number 2"), ("paper 2 1 1 1", "number 0"),
            ("paper 2 0 0 0; 0 0 0; 0 0 0", "moment 0"),
        ]:
            self.answers(desk, row, answer)

    def test_a_crowd(self):
        desk = desk_with(world_of((-90, 1), (-88, -1)) + together(0, 6, [3, 1, -2]))
        self.answers(desk, "paper 5 1 -89 0", "right")
        self.answers(desk, "paper 6 1 -89 0", "crowd 1")
        self.answers(desk, "paper 6 1 -89 1", "number 0")

    def test_refused(self):
        desk = desk_with(THREE)
        self.refuses(desk, "paper -1", NoMoment)
        self.refuses(desk, "paper -1/2 1 1 0", NoMoment)
        long_run = desk_with(LONG_RUN)
        self.answers(long_run, "paper 9999", "fewer 0")

    def test_of_many_meetings(self):
        world = [body(place, speed) for place, speed in [(0, 7), (10, 6), (21, 5), (33, 4), (46, 3), (60, 2)]]
        desk = desk_with(world)
        run = run_of(world, 40)
        self.answers(desk, "paper 9999 " + listed(run[1]), "right")
        self.assertEqual(run[0], "still")

    def test_rows_that_are_none(self):
        desk = desk_with(THREE)
        for row in [
            "paper", "paper ", "paper 1 ", "paper 1 none", "paper 1;", "paper 1; 1 1 0", "paper 1 1 1",
            "paper 1 1 1 0 0", "paper 1 1 1 0;", "paper 1 1 1 0; ", "paper 1 1 1 0;1 1 0", "paper 1 1 1 0 ; 1 1 0",
            "paper 1 1 1 0;  1 1 0", "paper 1 1 1 0; 1 1", "paper 1 1 1 -1", "paper 1 1 1 0/1",
            "paper 1 1 1 1/2", "paper 1 01 1 0",
            "paper 1 1 1 10000", "paper 10000 1 1 0", "paper 1 10000 1 0", "paper 1 1 1/10000 0",
            "paper 1 1 1 0; 2 2/2 0", "paper x", "paper 1 a b c", "paper 1  1 1 0", "paper  1",
            "paper 1 1 1 0; 1 1 0; ", "paper 1 ; 1 1 0",
            "paper 1, 1 1 0", "Paper 1", "papers 1", "paper 1 1 1 0\n", "paper\n1",
        ]:
            self.refuses(desk, row, NoRow)
            self.refuses(Desk(), row, NoRow)

    def test_by_chance(self):
        chance = random.Random(41)
        for world in small_worlds(42, 3):
            desk = desk_with(world)
            run = run_of(world, 6)[1]
            if any(abs(part) > 9999 for met in run for number in met[:2] for part in number):
                continue
            for count in range(len(run) + 1):
                moment = pair(Fraction(chance.randint(0, 20), 2))
                row = " ".join(["paper", word(moment)] + ([listed(run[:count])] if count else []))
                wrong = first_wrong(world, run[:count], moment)
                self.answers(desk, row, "right" if wrong is None else f"{wrong[0]} {wrong[1]}")


class LikesAndRounds(DeskCase):
    def test_likes(self):
        desk = desk_of("body 1 1 3", "body 2 0 3")
        self.answers(desk, "likes 0", "1 1 3; 2 0 3")
        self.answers(desk, "likes 1", "2 0 3; 2 1 3")
        self.answers(desk, "likes 5", "2 0 3; 6 1 3")
        self.refuses(desk, "likes -1", NoMoment)
        self.answers(desk_with(together(0, 1, [1, 0, -1], [1] * 3)), "likes 1", "0 -1 1; 0 0 1; 0 1 1")

    def test_unlike_ones(self):
        desk = desk_of("body 1 1 3", "body 2 0 3", "body 3 0 4")
        self.refuses(desk, "likes 1", NoWorld, 2)
        self.refuses(desk, "likes -1", NoWorld, 2)
        self.refuses(desk, "round 9", NoWorld, 2)

    def test_rounds(self):
        desk = desk_of("body 1 1 3", "body 2 0 3")
        self.answers(desk, "round 4", "8")
        self.answers(desk, "round 7/2", "7")
        self.answers(desk_of("body 1 2/3 3"), "round 5/2", "15/2")
        self.answers(desk_of("body 1 0 3", "body 2 0 3"), "round 4", "none")

    def test_outside(self):
        desk = desk_of("body 1 1 3", "body 2 0 3")
        self.refuses(desk, "round 2", NoWorld, 1)
        self.refuses(desk, "round 1", NoWorld, 0)
        self.refuses(desk_of("body -1 1 3"), "round 1", NoWorld, 0)
        self.answers(desk, "round 9999", "19998")

    def test_no_length(self):
        desk = desk_of("body 1 1 3", "body 2 0 3")
        for length in ("0", "-1", "-1/2", "0/1", "-4"):
            self.refuses(desk, "round " + length, NoRow)


class Counts(DeskCase):
    def test_counts(self):
        for desk in (Desk(), desk_of(*LEFT_AND_RIGHT)):
            self.answers(desk, "count 1 1", "3")
            self.answers(desk, "count 1 100", "31")
            self.answers(desk, "count 9999 1", "2")
            self.answers(desk, "count 1 9999", str(count_of(1, 9999)))
            for row in ("count 0 1", "count 1 0", "count 0 0"):
                self.refuses(desk, row, NoNumber)
            for pair_of_words in ("1 10000", "10000 1", "-1 1", "1 -1", "1", "1 1 1", "1/2 1"):
                self.refuses(desk, "count " + pair_of_words, NoRow)


class Clumps(DeskCase):
    def test_by_hand(self):
        desk = desk_of(*LEFT_AND_RIGHT)
        self.answers(desk, "stuck", "10/3 10/3 0 1")
        self.answers(desk, "clumps 0", "0 0 0 1 2; 1 1 5 -1/2 1")
        self.answers(desk, "clumps 10/3", "0 1 10/3 1/2 3")
        self.answers(desk, "clumps 5", "0 1 25/6 1/2 3")
        self.refuses(desk, "clumps -1", NoMoment)
        self.refuses(desk, "clumps -1/9", NoMoment)

    def test_none_and_crowds(self):
        self.answers(desk_of("body 0 0 1", "body 1 0 1"), "stuck", "none")
        desk = desk_with(together(0, 1, [1, 0, -1]) + together(9, 1, [1, -1]))
        self.answers(desk, "stuck", listed(stuck_run(together(0, 1, [1, 0, -1]) + together(9, 1, [1, -1]))))
        self.assertEqual(desk.say("stuck").split("; ")[:2], ["1 0 0 2", "1 9 3 4"])


class Rows(DeskCase):
    GOOD = [
        "body 1 1 1", "clear", "world", "meet 0 1", "run 1", "at 1", "back 1", "paper 1", "likes 1", "round 9",
        "wall 1", "count 1 1", "stuck", "clumps 1",
    ]

    def none(self, *rows):
        for row in rows:
            for desk in (Desk(), desk_of(*LEFT_AND_RIGHT), desk_with(row_of(6))):
                self.refuses(desk, row, NoRow)

    def test_the_good_ones_are_rows(self):
        for row in self.GOOD:
            self.assertNotEqual(outcome(desk_of("body 3 0 1", "body 4 0 1").say, row), (NoRow, []))

    def test_a_word_too_few_or_too_many(self):
        for row in self.GOOD:
            self.none(row + " 1", row + " x", row + " none")
            words = row.split(" ")
            if len(words) > 1:
                self.none(" ".join(words[:-1]), words[0])

    def test_words_exchanged(self):
        self.none("1 at", "1 run", "0 1 meet", "1 1 1 body", "1 body 1 1", "9 round", "1 1 count")
        self.none("body 1 2 1/2", "body 1 2 -3", "meet 1/2 0", "run 1/2", "wall 3/2", "count 1 1/2")

    def test_blanks(self):
        for row in self.GOOD:
            self.none(" " + row, row + " ", row + "  ", row + "\n", "\n" + row, row + "\t")
            if " " in row:
                self.none(row.replace(" ", "  ", 1), row.replace(" ", "\t", 1), row.replace(" ", "\n", 1))
                self.none(row.replace(" ", "", 1), row.replace(" ", ", ", 1))
        self.none("", " ", "  ", "\n", "\t")

    def test_words_that_begin_no_row(self):
        self.none("bodies", "BODY 1 1 1", "Body 1 1 1", "clears", "words", "world;", "step", "hull 1", "lost 1", "none")
        self.none("at", "count", "wheel 1", "clumps", "stuck 1", "turning 1 1", "place", "bod", "w", "number", "0", "1")

    def test_numbers(self):
        wrong = [
            "01", "00", "-0", "-01", "+1", "1.0", "1e2", "0x1", "1_0", "", "-", "--1", "1-", "1 ", "10000", "99999",
            "x", "\u0661", "\u00b2", "\uff11", "1\u0660", "\u2212" + "1", "True", "None", "(1, 1)", "1;", "1" * 101,
            "9" * 5000,
        ]
        for number in wrong:
            self.none(f"at {number}", f"back {number}", f"likes {number}", f"clumps {number}", f"paper {number}")
            self.none(f"body {number} 1 1", f"body 1 {number} 1", f"body 1 1 {number}", f"round {number}")
            self.none(f"run {number}", f"wall {number}", f"meet {number} 0", f"meet 0 {number}")
            self.none(f"count {number} 1", f"count 1 {number}")

    def test_fractions(self):
        wrong = [
            "1/1", "2/1", "1/0", "0/1", "0/2", "2/4", "-2/4", "1/-2", "-1/-2", "1/02", "01/2", "-0/2", "1/2/3", "1/",
            "/2", "/", "1//2", "1 /2", "1/+2", "10000/3", "1/10000", "-10000/3", "10000/10001", "1/" + "7" * 101, "1/x",
            "x/2",
        ]
        for number in wrong:
            self.none(f"at {number}", f"back {number}", f"likes {number}", f"clumps {number}", f"paper {number}")
            self.none(f"body {number} 1 1", f"body 1 {number} 1", f"round {number}", f"paper 1 {number} 1 0")
            self.none(f"paper 1 1 {number} 0", f"paper 1 1 1 0; {number} 1 0")

    def test_numbers_from_nought_on(self):
        self.none("run -1", "wall -1", "meet -1 0", "meet 0 -1", "count -1 1", "count 1 -1", "body 1 1 -1", "run -40")

    def test_four_figures(self):
        desk = desk_of("body 9999 9999 1000", "body -9999/9998 -9998/9999 1")
        self.answers(desk, "world", "-9999/9998 -9998/9999 1; 9999 9999 1000")
        self.answers(desk, "at 9999/9998", listed(at(
            [((-9999, 9998), (-9998, 9999), 1), ((9999, 1), (9999, 1), 1000)], (9999, 9998),
        )))
        self.refuses(desk, "run 9999", TooMany)

    def test_things_of_every_other_kind(self):
        for thing in ODD_THINGS + WHOLE_NUMBERS + [["world"], ("world",), {"world": 1}, ["body", "1", "1", "1"], 1]:
            for desk in (Desk(), desk_of(*LEFT_AND_RIGHT)):
                self.refuses(desk, thing, NoRow)


class WithoutBodies(DeskCase):
    def test_rows_that_need_some(self):
        for desk in (Desk(), desk_of("body 1 1 1", "clear")):
            for row in NEEDING:
                self.refuses(desk, row, NoWorld, 0)

    def test_rows_that_need_none(self):
        self.answers(Desk(), "world", "none")
        self.answers(Desk(), "clear", "0")
        self.answers(Desk(), "count 1 1", "3")
        self.answers(Desk(), "body 1 1 1", "1")
        self.refuses(Desk(), "count 0 1", NoNumber)
        self.refuses(Desk(), "body 1 1 0", NoBody)

    def test_no_row_goes_ahead(self):
        for row in ["run -1", "at 1/1", "round 0", "meet 0", "stuck 1", "paper 1 1", "clumps"]:
            self.refuses(Desk(), row, NoRow)


class AgainstTheModules(DeskCase):
    ROWS = [
        "world", "run 0", "run 3", "run 40", "run 41", "wall 0", "wall 5", "wall 40", "wall 77", "at 0", "at 3",
        "at 17/2", "at -3", "at 9999", "back 1", "back 9/7", "back -1", "back 9999", "likes 0", "likes 7/3", "likes -2",
        "round 20", "round 9999", "round 13/2", "stuck", "clumps 0", "clumps 4", "clumps 9999/2", "clumps -1",
    ]

    def test_by_chance(self):
        refused = set()
        for world in small_worlds(101, 8):
            desk = desk_with(world)
            self.assertEqual(numbered(world), world)
            for row in self.ROWS:
                right = expected(row, world)
                with self.subTest(world=world, row=row):
                    self.assertEqual(outcome(desk.say, row), right)
                if not isinstance(right, str):
                    refused.add(right[0])
        self.assertEqual(refused, {Crowd, NoMoment, NoWorld, TooMany})

    def test_answers_of_more_than_a_hundred_figures(self):
        # With small places the bottoms are the longer ones, with great places the tops are.
        for times in (1, Fraction(1, 9999), 2000):
            world = [body(free(place) * times, free(speed), weight) for place, speed, weight in LONG_RUN]
            desk = desk_with(world)
            sizes = []
            for most in range(41):
                told = run_of(world, most)
                sizes.append(longest(told[1]))
                if sizes[most] > 100:
                    self.refuses(desk, f"run {most}", TooMany)
                else:
                    self.answers(desk, f"run {most}", run_told(told))
            self.assertTrue(sizes[3] < 100 < sizes[40])

    def test_the_bodies_of_a_run_are_not_told(self):
        # Only what is told is bounded: the run has short numbers, and the bodies behind it have not to be written.
        desk = desk_of("body 0 9998/9999 997", "body 1/9973 -9949/9967 991")
        self.assertTrue(desk.say("run 40").startswith("still "))

    def test_just_a_hundred_figures(self):
        edges = {100: 0, 101: 0}
        for weight in range(971, 1001):
            world = world_of((0, 1, weight), (1, 0, 1), (4, -1, 1000))
            desk = desk_with(world)
            for most in range(16, 40):
                told = run_of(world, most)
                size = longest(told[1])
                if size in edges:
                    edges[size] += 1
                    self.assertEqual(outcome(desk.say, f"run {most}"), run_told(told) if size == 100 else (TooMany, []))
        self.assertGreater(min(edges.values()), 0, edges)

    def test_asked_again(self):
        for world in small_worlds(102, 1):
            desk, other = desk_with(world), desk_with(world[::-1])
            told = [outcome(desk.say, row) for row in self.ROWS]
            self.assertEqual([outcome(desk.say, row) for row in self.ROWS], told)
            self.assertEqual([outcome(desk.say, row) for row in self.ROWS[::-1]], told[::-1])
            self.assertEqual([outcome(other.say, row) for row in self.ROWS], told)
            self.assertEqual(desk.say("world"), listed(world))


class TwoDesks(DeskCase):
    def test_beside_one_another(self):
        first, second = Desk(), Desk()
        self.answers(first, "body 1 1 1", "1")
        self.answers(second, "world", "none")
        self.answers(second, "body 1 2 2", "1")
        self.answers(first, "body 2 2 2", "2")
        self.answers(second, "world", "1 2 2")
        self.answers(second, "clear", "0")
        self.answers(first, "world", "1 1 1; 2 2 2")
        self.answers(Desk(), "world", "none")


if __name__ == "__main__":
    unittest.main()
