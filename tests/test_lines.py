"""Points 6, 7 and 31 to 34, and points 3 to 5 of lines."""

import random
import unittest
from fractions import Fraction

from knockwright.errors import Crowd, TooMany
from knockwright.knocks import meet_of, might, mirrored, push, seen_from, speeds_after
from knockwright.lines import Line, run_of
from knockwright.worlds import is_body
from tests.plainly import plain_run
from tests.samples import (
    LONG, LONG_RUN, LONGER, ODD_THINGS, THREE, THREE_MET, WHOLE_NUMBERS, body, fraction_by_chance, free, kinds, pair,
    refused_crowd, row_of, together, unchanged, world_by_chance, world_of, worlds_by_chance,
)


def scaled(world, place=1, speed=1, weight=1):
    return [body(free(one[0]) * place, free(one[1]) * speed, one[2] * weight) for one in world]


def stepped(world, most):
    """A line led through so many moments, or up to where it tells nothing or refuses."""
    line = Line(world)
    for _ in range(most):
        try:
            if line.step() == []:
                break
        except Crowd:
            break
    return line


class ByHand(unittest.TestCase):
    def test_one_body(self):
        for most in (0, 1, 40):
            self.assertEqual(kinds(run_of([body(5, -3, 7)], most)), kinds(("still", [], [body(5, -3, 7)], (0, 1))))

    def test_two_that_meet(self):
        world = world_of((0, 3, 2), (3, 0, 1))
        self.assertEqual(kinds(run_of(world, 0)), kinds(("more", [], world, (0, 1))))
        behind = [((3, 1), (1, 1), 2), ((3, 1), (4, 1), 1)]
        for most in (1, 2, 40):
            self.assertEqual(kinds(run_of(world, most)), kinds(("still", [((1, 1), (3, 1), 0)], behind, (1, 1))))

    def test_two_that_never_meet(self):
        for first, second in [(0, 0), (1, 1), (-1, 1), (1, 2)]:
            world = world_of((0, first), (1, second, 9))
            for most in (0, 1, 40):
                self.assertEqual(kinds(run_of(world, most)), kinds(("still", [], world, (0, 1))))

    def test_one_meeting_behind_the_other(self):
        second = [((3, 2), (-1, 1), 1), ((3, 2), (1, 1), 1)]
        self.assertEqual(run_of(THREE, 0), ("more", [], THREE, (0, 1)))
        first = [((1, 1), (0, 1), 1), ((1, 1), (1, 1), 1), ((2, 1), (-1, 1), 1)]
        self.assertEqual(kinds(run_of(THREE, 1)), kinds(("more", THREE_MET[:1], first, (1, 1))))
        self.assertEqual(run_of(THREE, 2), ("more", THREE_MET[:2], [((1, 1), (0, 1), 1)] + second, (3, 2)))
        last = [((1, 1), (-1, 1), 1), ((1, 1), (0, 1), 1), ((2, 1), (1, 1), 1)]
        for most in (3, 4, 40):
            self.assertEqual(kinds(run_of(THREE, most)), kinds(("still", THREE_MET, last, (2, 1))))

    def test_several_at_one_moment_by_places(self):
        world = world_of((0, 1), (2, -1), (10, 2), (14, -2), (20, 0), (21, -1), (30, 0))
        told = run_of(world, 1)
        meetings = [((1, 1), (1, 1), 0), ((1, 1), (12, 1), 2), ((1, 1), (20, 1), 4)]
        self.assertEqual(kinds(told[1]), kinds(meetings))
        self.assertEqual(told[0], "more")
        self.assertEqual([free(one[1]) for one in told[2]], [-1, 1, -2, 2, -1, 0, 0])
        self.assertEqual([free(one[0]) for one in told[2]], [1, 1, 12, 12, 20, 20, 30])

    def test_several_at_one_moment_of_twelve(self):
        world = [body(10 * (k // 2) + 2 * (k % 2), 1 - 2 * (k % 2), 1 + 83 * k) for k in range(12)]
        told = run_of(world, 1)
        self.assertEqual(told[1], [((1, 1), (10 * k + 1, 1), 2 * k) for k in range(6)])

    def test_places_below_nought(self):
        world = world_of((-9, 0, 3), (-8, Fraction(-1, 2), 1))
        told = run_of(world, 40)
        self.assertEqual(told[1], [((2, 1), (-9, 1), 0)])
        self.assertEqual(told[2], [((-9, 1), (-1, 4), 3), ((-9, 1), (1, 4), 1)])


class Numbers(unittest.TestCase):
    def test_numbers_of_moments_that_are_refused(self):
        wrong = [41, 42, -1, -40, 100, (0, 1), (1, 1), [0], "0", "40", ""]
        for thing in ODD_THINGS + wrong + [number for number in WHOLE_NUMBERS if not 0 <= number <= 40]:
            for world in (THREE, row_of(1), together(0, 1, [2, 1, 0])):
                with self.subTest(thing=thing), self.assertRaises(TooMany):
                    run_of(world, thing)

    def test_numbers_of_moments_that_are_not(self):
        for most in range(41):
            self.assertEqual(run_of(THREE, most)[1], THREE_MET[:most])
            self.assertEqual(run_of(row_of(12), most), ("still", [], row_of(12), (0, 1)))

    def test_each_number_of_a_long_run(self):
        runs = [run_of(LONG_RUN, most) for most in range(41)]
        self.assertEqual(runs[40], plain_run(LONG_RUN, 40)[0])
        for most, told in enumerate(runs):
            self.assertEqual(told[0], "more")
            self.assertEqual(told[1], runs[40][1][:most])
            self.assertEqual(len(told[1]), most)
            self.assertEqual(told[3], told[1][-1][0] if most else (0, 1))


class ByChance(unittest.TestCase):
    def test_against_another_way(self):
        words = {"still": 0, "crowd": 0, "more": 0}
        several = 0
        for number, world in enumerate(worlds_by_chance(31, 30)):
            most = [0, 40, 1, 40, 3][number % 5]
            told, crowd = plain_run(world, most)
            with self.subTest(world=world, most=most):
                self.assertEqual(kinds(run_of(world, most)), kinds(told))
                line = stepped(world, most)
                self.assertEqual(kinds((line.met(), line.bodies(), line.time())), kinds(told[1:]))
                if crowd is not None:
                    refused_crowd(self, crowd, line.next_meetings)
                    refused_crowd(self, crowd, line.step)
            words[told[0]] += 1
            several += len(told[1]) > len({meeting[0] for meeting in told[1]})
        # Else this would have seen nothing of what it is for.
        self.assertGreater(min(words.values()), 20, words)
        self.assertGreater(several, 30)

    def test_fractions_of_many_figures(self):
        chance = random.Random(32)
        for count in (2, 3, 5):
            world = world_by_chance(chance, count, 10 ** 40, 10 ** 40)
            self.assertEqual(run_of(world, 40), plain_run(world, 40)[0])
        long = world_of((Fraction(-LONGER, LONG), Fraction(1, LONG), 3), (0, Fraction(-LONG, LONGER), 999), (1, -2, 7))
        self.assertEqual(run_of(long, 40), plain_run(long, 40)[0])

    def test_four_hundred_figures_each(self):
        chance = random.Random(33)
        world = world_by_chance(chance, 4, 10 ** 400 - 1, 10 ** 400 - 1)
        self.assertEqual(run_of(world, 40), plain_run(world, 40)[0])

    def test_told_bodies_are_handed_in_again(self):
        world = world_by_chance(random.Random(34), 6, 10 ** 20, 10 ** 20)
        for _ in range(3):
            told = run_of(world, 1)
            self.assertTrue(all(is_body(one) for one in told[2]))
            later = [(pair(free(one[0]) + free(one[1]) / 10 ** 40), one[1], one[2]) for one in told[2]]
            self.assertEqual(run_of(later, 5), plain_run(later, 5)[0])
            world = later


class Crowds(unittest.TestCase):
    def check(self, world, crowd, ahead=0):
        """A crowd behind so many moments."""
        for most in range(ahead + 1):
            self.assertEqual(run_of(world, most)[0], "more")
        told = run_of(world, 40)
        self.assertEqual(told[0], "crowd")
        self.assertEqual(len({meeting[0] for meeting in told[1]}), ahead)
        self.assertEqual(run_of(world, ahead + 1), told)
        self.assertEqual(run_of(world, ahead)[1:], told[1:])
        line = Line(world)
        for _ in range(ahead):
            self.assertNotEqual(line.step(), [])
        for _ in range(3):
            refused_crowd(self, crowd, line.next_meetings)
            refused_crowd(self, crowd, line.step)
            self.assertEqual((line.met(), line.bodies(), line.time()), told[1:])

    def test_of_three_four_and_five(self):
        for count in (3, 4, 5):
            world = together(Fraction(1, 3), 2, [5, 2, 0, Fraction(-1, 2), -7][:count])
            self.check(world, ((2, 1), (1, 3), tuple(range(count))))
            self.assertEqual(run_of(world, 40), ("crowd", [], world, (0, 1)))

    def test_of_twelve(self):
        world = together(0, 1, range(11, -1, -1), range(1, 13))
        self.check(world, ((1, 1), (0, 1), tuple(range(12))))

    def test_of_the_last_ones(self):
        world = world_of((-50, -1), (-40, 0)) + together(10, 3, [4, 2, -1])
        self.check(world, ((3, 1), (10, 1), (2, 3, 4)))

    def test_two_at_one_moment(self):
        world = together(0, 3, [2, 1, 0]) + together(40, 3, [1, 0, -1, -2])
        self.check(world, ((3, 1), (0, 1), (0, 1, 2)))
        self.check(together(-9, 3, [5, 1, 0, -1]) + world, ((3, 1), (-9, 1), (0, 1, 2, 3)))

    def test_beside_a_pair_at_the_same_moment(self):
        pair_left = together(-30, 2, [1, -1])
        pair_right = together(30, 2, [1, -1])
        crowd = together(0, 2, [3, 1, -2])
        self.check(pair_left + crowd, ((2, 1), (0, 1), (2, 3, 4)))
        self.check(crowd + pair_right, ((2, 1), (0, 1), (0, 1, 2)))
        self.check(pair_left + crowd + pair_right, ((2, 1), (0, 1), (2, 3, 4)))
        self.assertEqual(run_of(pair_left + crowd + pair_right, 40)[1], [])

    def test_behind_other_meetings(self):
        crowd = together(0, 6, [3, 1, -2])
        self.check(world_of((-90, 1), (-88, -1)) + crowd, ((6, 1), (0, 1), (2, 3, 4)), 1)
        self.check(world_of((-90, 3), (-88, 1), (-84, -1)) + crowd, ((6, 1), (0, 1), (3, 4, 5)), 3)

    def test_behind_meetings_of_the_same_bodies(self):
        # Bodies alike exchange speeds, so the straight goings of 0, 2 and 3 come to 0 at 5, behind others.
        world = world_of((-15, 3), (-6, Fraction(1, 2)), (-5, 1), (10, -2))
        told, crowd = plain_run(world, 40)
        self.assertEqual(told[0], "crowd")
        self.check(world, crowd, len(told[1]))
        self.assertEqual(crowd[:2], ((5, 1), (0, 1)))
        self.assertGreater(len(told[1]), 0)

    def test_two_meetings_at_one_place_behind_each_other(self):
        # Three come to one place, but not at one moment: no crowd.
        world = world_of((-1, 1, 1), (0, 0, 1), (3, -1, 1))
        self.assertEqual(run_of(world, 40)[0], "still")

    def test_two_pairs_at_one_moment_are_none(self):
        world = together(0, 1, [1, -1]) + together(5, 1, [1, -1])
        self.assertEqual(run_of(world, 1)[1], [((1, 1), (0, 1), 0), ((1, 1), (5, 1), 2)])

    def test_the_number_is_used_up_and_a_crowd_comes_next(self):
        world = together(0, 1, [1, 0, -1])
        self.assertEqual(run_of(world, 0), ("more", [], world, (0, 1)))
        world = world_of((-90, 1), (-88, -1)) + together(0, 6, [3, 1, -2])
        self.assertEqual(run_of(world, 1)[0], "more")
        self.assertEqual(run_of(world, 2)[0], "crowd")
        self.assertEqual(run_of(world, 1)[1:], run_of(world, 2)[1:])


class Stepping(unittest.TestCase):
    def test_by_hand(self):
        line = Line(THREE)
        self.assertEqual(kinds((line.time(), line.bodies(), line.met())), kinds(((0, 1), THREE, [])))
        for number, meeting in enumerate(THREE_MET):
            for _ in range(3):
                self.assertEqual(kinds(line.next_meetings()), kinds([meeting]))
            self.assertEqual(kinds(line.met()), kinds(THREE_MET[:number]))
            self.assertEqual(kinds(line.step()), kinds([meeting]))
            self.assertEqual(kinds(line.time()), kinds(meeting[0]))
            self.assertEqual(kinds(line.met()), kinds(THREE_MET[:number + 1]))
            places = [one[0] for one in line.bodies()]
            self.assertEqual(places[meeting[2]], meeting[1])
            self.assertEqual(places[meeting[2] + 1], meeting[1])

    def test_until_nothing_comes(self):
        line = Line(THREE)
        while line.step() != []:
            pass
        for _ in range(3):
            self.assertEqual(kinds(line.next_meetings()), kinds([]))
            self.assertEqual(kinds(line.step()), kinds([]))
            self.assertEqual(line.time(), (2, 1))
            self.assertEqual(line.met(), THREE_MET)
            self.assertEqual(line.bodies(), run_of(THREE, 40)[2])

    def test_bodies_that_never_meet(self):
        for world in (row_of(1), row_of(12), world_of((0, -1), (1, 2))):
            line = Line(world)
            for _ in range(2):
                self.assertEqual((line.next_meetings(), line.step(), line.met()), ([], [], []))
                self.assertEqual(kinds((line.time(), line.bodies())), kinds(((0, 1), world)))

    def test_as_often_as_a_number_tells(self):
        for world in [LONG_RUN, THREE] + list(worlds_by_chance(35, 2)):
            for most in (0, 1, 2, 3, 7):
                line = stepped(world, most)
                told = run_of(world, most)
                self.assertEqual(kinds((line.met(), line.bodies(), line.time())), kinds(told[1:]))

    def test_a_step_tells_what_comes_next(self):
        for world in worlds_by_chance(36, 1):
            line = Line(world)
            done = []
            for _ in range(10):
                try:
                    ahead = line.next_meetings()
                except Crowd:
                    break
                self.assertEqual(line.met(), done)
                self.assertEqual(line.step(), ahead)
                done = done + ahead
                self.assertEqual(line.met(), done)

    def test_two_lines_of_one_world(self):
        world = list(LONG_RUN)
        first, second = Line(world), Line(world)
        for most in range(5):
            self.assertEqual((second.time(), second.met(), second.bodies()), ((0, 1), [], LONG_RUN))
            self.assertEqual((first.met(), first.bodies(), first.time()), run_of(world, most)[1:])
            first.step()
        for _ in range(5):
            second.step()
        self.assertEqual((first.met(), first.bodies(), first.time()), (second.met(), second.bodies(), second.time()))
        self.assertEqual(first.next_meetings(), second.next_meetings())

    def test_further_than_forty_moments(self):
        line = stepped(LONG_RUN, 45)
        self.assertEqual(line.met()[:40], run_of(LONG_RUN, 40)[1])
        self.assertEqual(len(line.met()), 45)


class NothingElseChanges(unittest.TestCase):
    def test_run_of(self):
        for world in [THREE, LONG_RUN, row_of(12), together(0, 1, [1, 0, -1])]:
            for most in (0, 2, 40, 41, True, "x"):
                unchanged(self, run_of, world, most)

    def test_told_lists_of_a_run_may_be_changed(self):
        for world in (THREE, row_of(3), together(0, 1, [1, 0, -1])):
            for most in (0, 1, 40):
                handed = list(world)
                told, again = run_of(handed, most), run_of(handed, most)
                for part in (1, 2):
                    self.assertIsNot(told[part], again[part])
                    self.assertIsNot(told[part], handed)
                    told[part].append(None)
                    told[part][0] = None
                self.assertEqual(handed, world)
                self.assertEqual(run_of(handed, most), again)
                handed.clear()
                self.assertEqual(run_of(world, most), again)

    def test_a_handed_list_may_be_changed(self):
        for spoil in (list.clear, list.reverse, lambda world: world.append(body(99, -50))):
            handed = list(THREE)
            line = Line(handed)
            spoil(handed)
            self.assertEqual(line.bodies(), THREE)
            line.step()
            spoil(handed)
            while line.step() != []:
                pass
            self.assertEqual((line.met(), line.bodies(), line.time()), run_of(THREE, 40)[1:])

    def test_a_line_changes_no_handed_list(self):
        handed = list(LONG_RUN)
        line = Line(handed)
        for _ in range(5):
            line.next_meetings()
            line.step()
            line.bodies()
            self.assertEqual(handed, LONG_RUN)

    def test_told_lists_of_a_line_may_be_changed(self):
        spoilt, whole = Line(THREE), Line(THREE)
        for _ in range(5):
            for ask in (Line.bodies, Line.met, Line.next_meetings):
                told = ask(spoilt)
                self.assertIsNot(told, ask(spoilt))
                told.append(None)
                told[0] = None
                self.assertEqual(kinds(ask(spoilt)), kinds(ask(whole)))
            told = spoilt.step()
            self.assertEqual(told, whole.step())
            told.append(None)
            told[0] = None
        self.assertEqual(kinds((spoilt.met(), spoilt.bodies())), kinds((whole.met(), whole.bodies())))

    def test_what_is_asked_changes_nothing(self):
        asked, left = Line(LONG_RUN), Line(LONG_RUN)
        for _ in range(6):
            for _ in range(3):
                asked.time(), asked.bodies(), asked.met(), asked.next_meetings()
            self.assertEqual(asked.step(), left.step())
        self.assertEqual((asked.met(), asked.bodies(), asked.time()), (left.met(), left.bodies(), left.time()))


class PromiseOfARun(unittest.TestCase):
    def worlds(self):
        return [world for world in worlds_by_chance(37, 3) if run_of(world, 40)[0] != "crowd"] + [LONG_RUN, THREE]

    def test_push_and_might_at_each_moment(self):
        for world in self.worlds():
            line = Line(world)
            sums = push(world), might(world)
            for _ in range(12):
                self.assertEqual((push(line.bodies()), might(line.bodies())), sums)
                if line.step() == []:
                    break

    def test_between_meetings_all_go_straight(self):
        for world in self.worlds():
            line = Line(world)
            for _ in range(12):
                ahead, start = line.bodies(), free(line.time())
                meetings = line.step()
                if meetings == []:
                    break
                time = free(line.time()) - start
                self.assertGreater(time, 0)
                for old, new in zip(ahead, line.bodies()):
                    self.assertEqual(free(new[0]), free(old[0]) + free(old[1]) * time)
                    self.assertEqual(new[2], old[2])

    def test_just_those_that_meet_change_their_speeds(self):
        for world in self.worlds():
            line = Line(world)
            for _ in range(12):
                ahead = line.bodies()
                meetings = line.step()
                speeds = [one[1] for one in ahead]
                for moment, place, left in meetings:
                    speeds[left:left + 2] = speeds_after(ahead[left], ahead[left + 1])
                self.assertEqual([one[1] for one in line.bodies()], speeds)

    def test_nobody_passes(self):
        for world in self.worlds():
            for most in (1, 3, 40):
                places = [free(one[0]) for one in run_of(world, most)[2]]
                self.assertEqual(places, sorted(places))

    def test_behind_the_last_meeting_no_two_meet(self):
        for world in self.worlds():
            told = run_of(world, 40)
            if told[0] == "still":
                speeds = [free(one[1]) for one in told[2]]
                self.assertEqual(speeds, sorted(speeds))

    def test_the_first_meeting_is_that_of_two_alone(self):
        for world in self.worlds():
            met = []
            for left in range(len(world) - 1):
                two = meet_of(world[left], world[left + 1])
                if two is not None:
                    met.append(two + (left,))
            moment = min((free(meeting[0]) for meeting in met), default=None)
            self.assertEqual(run_of(world, 1)[1], [meeting for meeting in met if free(meeting[0]) == moment])


class SameRunOtherwise(unittest.TestCase):
    def worlds(self):
        chance = random.Random(38)
        for count in range(1, 13):
            yield world_by_chance(chance, count, 12, 3, 9)
            yield world_by_chance(chance, count, 9, 1, 9)
        yield together(0, 1, [1, 0, -1])
        yield world_of((-90, 1), (-88, -1)) + together(0, 6, [3, 1, -2])

    def check(self, world, other, moment, place, speed, weight=1, most=7):
        told, seen = run_of(world, most), run_of(other, most)
        self.assertEqual(seen[0], told[0])
        self.assertEqual(free(seen[3]), free(told[3]) * moment)
        self.assertEqual(
            [(free(met[0]), free(met[1]), met[2]) for met in seen[1]],
            [(free(met[0]) * moment, free(met[1]) * place, met[2]) for met in told[1]],
        )
        self.assertEqual(seen[2], scaled(told[2], place, speed, weight))

    def test_greater_weights(self):
        for world in self.worlds():
            for times in (1, 2, 7, 111):
                self.check(world, scaled(world, weight=times), 1, 1, 1, times)

    def test_greater_places(self):
        for world in self.worlds():
            for times in (2, Fraction(7, 3), 10 ** 30):
                self.check(world, scaled(world, place=times), times, times, 1)

    def test_greater_speeds(self):
        for world in self.worlds():
            for times in (2, Fraction(7, 3), 10 ** 30):
                self.check(world, scaled(world, speed=times), Fraction(1) / times, 1, times)

    def test_seen_by_one_who_goes_along(self):
        chance = random.Random(39)
        for world in self.worlds():
            speed = fraction_by_chance(chance, 9)
            told, seen = run_of(world, 7), run_of([seen_from(one, pair(speed)) for one in world], 7)
            self.assertEqual((seen[0], seen[3]), (told[0], told[3]))
            way = [(met[0], pair(free(met[1]) - speed * free(met[0])), met[2]) for met in told[1]]
            self.assertEqual(seen[1], way)
            along = speed * free(told[3])
            self.assertEqual(seen[2], [body(free(p) - along, free(v) - speed, w) for p, v, w in told[2]])

    def test_mirrored(self):
        for world in self.worlds():
            told, seen = run_of(world, 7), run_of(mirrored(world), 7)
            self.assertEqual((seen[0], seen[3]), (told[0], told[3]))
            self.assertEqual(seen[2], mirrored(told[2]))
            turned = [(free(met[0]), -free(met[1]), len(world) - 2 - met[2]) for met in told[1]]
            self.assertEqual([(free(met[0]), free(met[1]), met[2]) for met in seen[1]], sorted(turned))


if __name__ == "__main__":
    unittest.main()
