"""Points 41 and 42 and the paper of 7, and points 3 to 5 of papers."""

import random
import unittest
from fractions import Fraction

from knockwright.backs import at
from knockwright.errors import NoMoment, NoRun, TooMany
from knockwright.lines import run_of
from knockwright.papers import first_wrong, is_run, stands
from tests.plainly import LONG_MOMENTS, crowd_behind, plain_run, plain_walk, plain_wrong
from tests.samples import (
    BELOW_NOUGHT, LONG_RUN, LONGER, ODD_THINGS, THREE, THREE_MET, WHOLE_NUMBERS, body, free, kinds, pair, row_of,
    together, unchanged, world_by_chance, world_of, worlds_by_chance,
)

LATE = (100, 1)
NO_FRACTIONS = ODD_THINGS + WHOLE_NUMBERS + [(2, 2), (2, 4), (0, 2), (1, 0), (1, -1), (True, 1), (1, True), [1, 1]]


class Judging(unittest.TestCase):
    def wrong(self, told, world, paper, moment):
        with self.subTest(world=world, paper=paper, moment=moment):
            self.assertEqual(kinds(first_wrong(world, paper, moment)), kinds(told))
            self.assertIs(is_run(world, paper, moment), told is None)
            if told is not None:
                self.assertRaises(NoRun, stands, world, paper, moment)
            else:
                self.assertEqual(kinds(stands(world, paper, moment)), kinds(plain_walk(world, moment)[1][1]))

    def judged(self, world, paper, moment):
        """Against the other way of looking; whether the paper was found right."""
        told = plain_wrong(world, paper, moment)
        if told == "many":
            self.refused(TooMany, world, paper, moment)
        else:
            self.wrong(told, world, paper, moment)
        return told is None

    def refused(self, kind, world, paper, moment):
        for deed in (first_wrong, is_run, stands):
            with self.subTest(world=world, paper=paper, moment=moment, deed=deed.__name__):
                self.assertRaises(kind, deed, world, paper, moment)


class ByHand(Judging):
    def test_right_papers(self):
        for count, moments in enumerate([
            [(0, 1), (1, 2), (99, 100)], [(1, 1), (5, 4)], [(3, 2), (7, 4)], [(2, 1), (3, 1), (LONGER, 1)],
        ]):
            for moment in moments:
                self.wrong(None, THREE, THREE_MET[:count], moment)

    def test_the_empty_paper(self):
        self.wrong(None, THREE, [], (1, 2))
        self.wrong(("fewer", 0), THREE, [], (1, 1))
        self.wrong(("fewer", 0), THREE, [], LATE)
        for world in (row_of(1), row_of(12), world_of((0, -1), (1, 1))):
            self.wrong(None, world, [], (0, 1))
            self.wrong(None, world, [], LATE)

    def test_the_moment_nought(self):
        self.wrong(None, THREE, [], (0, 1))
        self.wrong(("more", 0), THREE, THREE_MET, (0, 1))
        self.wrong(("more", 0), THREE, [None], (0, 1))

    def test_fewer(self):
        for count in range(3):
            self.wrong(("fewer", count), THREE, THREE_MET[:count], LATE)
            self.wrong(("fewer", count), THREE, THREE_MET[:count], THREE_MET[count][0])

    def test_more(self):
        for count in range(3):
            ahead = pair(free(THREE_MET[count][0]) - Fraction(1, 1000))
            self.wrong(("more", count), THREE, THREE_MET[:count + 1], ahead)
            self.wrong(("more", count), THREE, THREE_MET, ahead)
        for thing in ODD_THINGS + WHOLE_NUMBERS + THREE_MET:
            self.wrong(("more", 3), THREE, THREE_MET + [thing], LATE)
            self.wrong(("more", 0), row_of(3), [thing], LATE)

    def test_moment_place_and_number(self):
        moment, place, number = THREE_MET[1]
        for thing, word in [
            (((8, 5), place, number), "moment"), (((-3, 2), place, number), "moment"), (((0, 1), (0, 1), 9), "moment"),
            ((moment, (8, 5), number), "place"), ((moment, (-3, 2), number), "place"), ((moment, (0, 1), 9), "place"),
            ((moment, place, 0), "number"), ((moment, place, 2), "number"), ((moment, place, -1), "number"),
            ((moment, place, 10 ** 99), "number"),
        ]:
            self.wrong((word, 1), THREE, [THREE_MET[0], thing, THREE_MET[2]], LATE)
            self.wrong((word, 1), THREE, [THREE_MET[0], thing], moment)

    def test_form(self):
        for count in range(3):
            moment, place, number = THREE_MET[count]
            things = ODD_THINGS + WHOLE_NUMBERS
            things += [[moment, place, number], (moment, place), (moment, place, number, 1)]
            things += [(thing, place, number) for thing in NO_FRACTIONS]
            things += [(moment, thing, number) for thing in NO_FRACTIONS]
            things += [(moment, place, thing) for thing in ODD_THINGS + [(number, 1), str(number)]]
            for thing in things:
                paper = list(THREE_MET)
                paper[count] = thing
                self.wrong(("form", count), THREE, paper, LATE)

    def test_a_truth_in_the_place_of_a_number(self):
        moment, place, number = THREE_MET[1]
        for thing in [(moment, place, True), ((3, 2), (True, 1), 1), ((True, 1), place, 1)]:
            self.wrong(("form", 1), THREE, [THREE_MET[0], thing, THREE_MET[2]], LATE)
        self.wrong(("form", 0), THREE, [((1, 1), (1, 1), False)] + THREE_MET[1:], LATE)
        self.wrong(("form", 0), THREE, [((1, True), (1, 1), 0)] + THREE_MET[1:], LATE)

    def test_form_goes_ahead_of_the_others(self):
        self.wrong(("form", 0), THREE, [((9, 1), (9, 1), True)], LATE)
        self.wrong(("form", 0), THREE, [((9, 1), [1, 1], 0)], LATE)

    def test_the_first_wrong_thing(self):
        self.wrong(("number", 1), THREE, [THREE_MET[0], THREE_MET[1][:2] + (0,), None], LATE)
        self.wrong(("form", 0), THREE, [None, None], LATE)
        self.wrong(("moment", 0), THREE, THREE_MET[1:], LATE)

    def test_several_at_one_moment(self):
        world = world_of((0, 1), (2, -1), (10, 2), (14, -2), (20, 0), (21, -1))
        run = [((1, 1), (1, 1), 0), ((1, 1), (12, 1), 2), ((1, 1), (20, 1), 4)]
        self.wrong(None, world, run, (1, 1))
        self.wrong(("fewer", 2), world, run[:2], (1, 1))
        self.wrong(("place", 0), world, run[::-1], (1, 1))
        self.wrong(("place", 1), world, [run[0], run[2], run[1]], (1, 1))
        self.wrong(("number", 1), world, [run[0], run[1][:2] + (4,), run[2]], (1, 1))


class Crowds(Judging):
    def test_at_the_first_moment(self):
        world = together(0, 2, [3, 1, -2])
        self.wrong(None, world, [], (19, 10))
        for moment in [(2, 1), (21, 10), LATE]:
            for paper in ([], [None], THREE_MET, [((2, 1), (0, 1), 0)], [((2, 1), (0, 1), 0), ((2, 1), (0, 1), 1)]):
                self.wrong(("crowd", 0), world, paper, moment)

    def test_behind_other_meetings(self):
        world = world_of((-90, 3), (-88, 1), (-84, -1)) + together(0, 6, [3, 1, -2])
        word, run, bodies, moment = run_of(world, 40)
        self.assertEqual((word, len(run)), ("crowd", 3))
        self.wrong(None, world, run, (59, 10))
        for late in [(6, 1), LATE]:
            self.wrong(("crowd", 3), world, run, late)
            self.wrong(("crowd", 3), world, run + [None], late)
            self.wrong(("fewer", 2), world, run[:2], late)
            self.wrong(("form", 2), world, run[:2] + [None], late)

    def test_beside_a_pair_at_the_same_moment(self):
        world = together(-30, 2, [1, -1]) + together(0, 2, [3, 1, -2])
        self.wrong(("crowd", 0), world, [((2, 1), (-30, 1), 0)], (2, 1))
        self.wrong(None, world, [], (1, 1))


class Refusals(Judging):
    NO_LISTS = [thing for thing in ODD_THINGS + WHOLE_NUMBERS if not isinstance(thing, list)]

    def test_what_is_no_list(self):
        for thing in self.NO_LISTS + [tuple(THREE_MET), {0: THREE_MET[0]}, THREE_MET[0]]:
            for moment in [(0, 1), (1, 1), LATE]:
                self.refused(NoRun, THREE, thing, moment)
            self.refused(NoRun, row_of(1), thing, LATE)
            self.refused(NoRun, together(0, 2, [3, 1, -2]), thing, LATE)
            self.refused(NoRun, LONG_RUN, thing, LATE)

    def test_lists_of_odd_things(self):
        for thing in ODD_THINGS:
            if isinstance(thing, list):
                self.judged(THREE, thing, LATE)
                self.judged(THREE, thing, (0, 1))

    def test_moments_below_nought(self):
        for moment in BELOW_NOUGHT:
            for paper in [[], THREE_MET, [None], None, "paper", (), tuple(THREE_MET)]:
                self.refused(NoMoment, THREE, paper, moment)
            self.refused(NoMoment, LONG_RUN, [], moment)

    def test_forty_moments_and_a_forty_first(self):
        run = run_of(LONG_RUN, 40)[1]
        self.wrong(None, LONG_RUN, run, pair(LONG_MOMENTS[39]))
        self.wrong(None, LONG_RUN, run, pair((LONG_MOMENTS[39] + LONG_MOMENTS[40]) / 2))
        self.wrong(("more", 40), LONG_RUN, run + [None], pair(LONG_MOMENTS[39]))
        longer = plain_run(LONG_RUN, 41)[0][1]
        for moment in (pair(LONG_MOMENTS[40]), LATE):
            for paper in (run, longer, run + [None], run + run):
                self.refused(TooMany, LONG_RUN, paper, moment)

    def test_what_is_wrong_ahead_of_the_forty_first(self):
        run = run_of(LONG_RUN, 40)[1]
        self.wrong(("fewer", 0), LONG_RUN, [], LATE)
        self.wrong(("fewer", 39), LONG_RUN, run[:39], LATE)
        self.wrong(("form", 39), LONG_RUN, run[:39] + [None], LATE)
        self.wrong(("number", 20), LONG_RUN, run[:20] + [run[20][:2] + (7,)] + run[21:], LATE)

    def test_a_crowd_that_is_the_fortieth_or_the_forty_first(self):
        run = run_of(LONG_RUN, 40)[1]
        world, moment = crowd_behind(39)
        self.wrong(("crowd", 39), world, run[:39], moment)
        self.wrong(("crowd", 39), world, run[:39], LATE)
        world, moment = crowd_behind(40)
        self.wrong(None, world, run, pair(LONG_MOMENTS[39]))
        self.refused(TooMany, world, run, moment)
        self.refused(TooMany, world, run, LATE)


class ByChance(Judging):
    def turns(self, run, chance):
        """Papers with one thing otherwise than in a right one."""
        for k, (moment, place, number) in enumerate(run):
            rest = run[:k], run[k + 1:]
            yield rest[0] + rest[1]
            yield run[:k + 1] + run[k:]
            other = chance.randrange(len(run))
            swapped = list(run)
            swapped[k], swapped[other] = run[other], run[k]
            if swapped != run:
                yield swapped
            for thing in [
                (pair(free(moment) + Fraction(1, chance.randint(1, 9))), place, number),
                (moment, pair(free(place) - Fraction(1, chance.randint(1, 9))), number),
                (moment, place, number + chance.choice([-1, 1])),
                (place, moment, number) if place != moment else None,
                (moment, (2 * place[0], 2 * place[1]), number),
                ((-moment[0], -moment[1]), place, number),
                [moment, place, number],
                (moment, place, (number, 1)),
                run[other] if other != k and run[other] != run[k] else None,
            ]:
                yield rest[0] + [thing] + rest[1]
        yield run + [chance.choice(run)]

    def test_the_run_of_a_world(self):
        for world in list(worlds_by_chance(41, 4)) + [LONG_RUN, THREE]:
            for most in (0, 1, 2, 40):
                word, run, bodies, moment = run_of(world, most)
                self.wrong(None, world, run, moment)
                self.assertEqual(kinds(stands(world, run, moment)), kinds(bodies))
                if word != "still":
                    following = plain_run(world, most + 1)[0]
                    later = following[3] if len(following[1]) > len(run) else None
                    if later is not None:
                        for share in (Fraction(1, 3), Fraction(99, 100)):
                            between = free(moment) + (free(later) - free(moment)) * share
                            self.wrong(None, world, run, pair(between))
                        self.assertFalse(self.judged(world, run, later))
                elif most == 40:
                    self.wrong(None, world, run, LATE if free(moment) < 100 else moment)

    def test_papers_that_are_otherwise_in_one_thing(self):
        chance = random.Random(42)
        count = 0
        for number, world in enumerate(worlds_by_chance(43, 2)):
            word, run, bodies, moment = run_of(world, 8)
            if run:
                for paper in self.turns(run, chance):
                    self.assertFalse(self.judged(world, paper, moment))
                    count += 1
        self.assertGreater(count, 1000)

    def test_at_other_moments(self):
        words = {}
        for world in worlds_by_chance(44, 3):
            run = plain_run(world, 5)[0][1]
            for moment in [(0, 1), (1, 2), (1, 1), (3, 1), (20, 1)] + [met[0] for met in run]:
                for paper in (run, run[:1], run[:3], [], run + [None]):
                    self.judged(world, paper, moment)
                    told = plain_wrong(world, paper, moment)
                    words[told[0] if told else None] = True
        for word in ("crowd", "fewer", "more", None):
            self.assertIn(word, words)

    def test_fractions_of_many_figures(self):
        world = world_by_chance(random.Random(45), 4, 10 ** 100, 10 ** 100)
        word, run, bodies, moment = run_of(world, 5)
        self.assertGreater(len(run), 2)
        self.wrong(None, world, run, moment)
        for k in range(len(run)):
            top, bottom = run[k][0]
            self.judged(world, run[:k] + [((top + 1, bottom),) + run[k][1:]] + run[k + 1:], moment)


class Standing(Judging):
    def test_as_at_tells(self):
        for world in list(worlds_by_chance(46, 3)) + [THREE]:
            for moment in [(0, 1), (1, 3), (1, 1), (3, 2), (4, 1)]:
                run, end = plain_walk(world, moment)
                if end[0] == "bodies":
                    self.assertEqual(kinds(stands(world, run, moment)), kinds(at(world, moment)))

    def test_two_that_just_met(self):
        self.assertEqual(stands(THREE, THREE_MET[:1], (1, 1)), [body(1, 0), body(1, 1), body(2, -1)])

    def test_the_told_list_is_a_new_one(self):
        for moment, count in [((0, 1), 0), ((1, 1), 1), ((9, 1), 3)]:
            world, paper = list(THREE), THREE_MET[:count]
            told, again = stands(world, paper, moment), stands(world, paper, moment)
            self.assertIsNot(told, again)
            self.assertIsNot(told, world)
            told.clear()
            self.assertEqual(world, THREE)
            self.assertEqual(stands(world, paper, moment), again)

    def test_world_and_paper_stay_as_they_were(self):
        papers = [[], THREE_MET, THREE_MET[:2], THREE_MET + [[[]]], [{}], [[1, 2]], None, "paper"]
        for world in (THREE, row_of(12), LONG_RUN, together(0, 2, [3, 1, -2])):
            for paper in papers:
                for moment in [(0, 1), (3, 2), LATE, (-1, 1)]:
                    for deed in (first_wrong, is_run, stands):
                        unchanged(self, deed, world, paper, moment)


if __name__ == "__main__":
    unittest.main()
