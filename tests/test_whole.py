"""Points 1 to 9 over the whole program: the interface, and that nothing changes but by an object's own deeds."""

import importlib
import inspect
import random
import unittest
from copy import deepcopy
from fractions import Fraction

from knockwright.backs import at, back, turned
from knockwright.boxes import is_box, is_room, overlap
from knockwright.clumps import clumps_at, stuck_run
from knockwright.counts import count_of, turning
from knockwright.desk import Desk
from knockwright.errors import Crowd, KnockError, NoText, NoWorld, Overlap
from knockwright.hulls import hull_of
from knockwright.knocks import meet_of, might, mirrored, push, seen_from, speeds_after
from knockwright.likes import crossings, last_crossing, passed, wearer
from knockwright.lines import Line, run_of
from knockwright.losses import lost_in, run_lost, speeds_lost
from knockwright.papers import first_wrong, is_run, stands
from knockwright.planes import run_in
from knockwright.ratios import fraction, is_fraction, minus, over, plus, shown, times, under
from knockwright.rooms import in_room, round_of
from knockwright.texts import read_world, show_world
from knockwright.walls import walled_run
from knockwright.worlds import is_body, is_world, numbered
from tests.plain_boxes import box, room
from tests.samples import (
    LONG_RUN, ODD_THINGS, THREE, THREE_MET, alike, body, free, kinds, outcome, pair, row_of, together, world_by_chance,
    world_of, worlds_by_chance,
)

INTERFACE = {
    "ratios": "is_fraction(thing) fraction(top,bottom=1) plus(one,other) minus(one,other) times(one,other) "
              "over(one,other) under(one,other) shown(one)",
    "worlds": "is_body(thing) is_world(thing) numbered(bodies)",
    "texts": "show_world(world) read_world(text)",
    "knocks": "meet_of(one,other) speeds_after(one,other) push(bodies) might(bodies) seen_from(body,speed) "
              "mirrored(world)",
    "lines": "run_of(world,most) Line(world)",
    "papers": "first_wrong(world,run,moment) is_run(world,run,moment) stands(world,run,moment)",
    "backs": "at(world,moment) back(world,moment) turned(world)",
    "likes": "passed(world,moment) crossings(world,moment) wearer(world,number,moment) last_crossing(world)",
    "rooms": "in_room(world,length,moment) round_of(world,length)",
    "walls": "walled_run(world,most)",
    "counts": "count_of(light,heavy) turning(light,heavy)",
    "boxes": "is_box(thing) is_room(thing) overlap(one,other)",
    "planes": "run_in(room,boxes,most)",
    "clumps": "stuck_run(world) clumps_at(world,moment)",
    "hulls": "hull_of(world,moment)",
    "losses": "speeds_lost(one,other,share) lost_in(one,other,share) run_lost(world,share,most)",
    "desk": "Desk()",
    "errors": "NoWorld(at) NoText(line) Overlap(one,other) Crowd(moment,place,numbers)",
}
METHODS = {
    Line: ["time(self)", "bodies(self)", "met(self)", "next_meetings(self)", "step(self)"], Desk: ["say(self,row)"],
}
MADE_OF_A_TEXT = ["NoNumber", "NoBody", "NoMoment", "NoShare", "TooMany", "NoRow", "NoRun", "NoBox"]

ONE, OTHER = body(0, 3, 2), body(9, -1, 1)
TWO = [ONE, OTHER]
LIKES = alike(THREE, 5)
ROOMED = alike(world_of((1, 1), (2, 0), (3, -1)), 5)
CROWD = together(4, 2, [1, 0, -1])
BOXES = [box(1, 1, 1, 1, 1, 2), box(5, 5, 1, 1, -1)]
NINE = room(9, 9)

# For every function what is handed to it: some is told, and some is refused.
ASKED = [
    (is_fraction, [[(1, 2)], [[1, 2]], [{1: [2]}]]),
    (fraction, [[4, 6], [4], [[1], 2], [1, 0]]),
    (plus, [[(1, 2), (1, 3)]]), (minus, [[(1, 2), (1, 3)]]), (times, [[(1, 2), (1, 3)]]),
    (over, [[(1, 2), (1, 3)], [(1, 2), (0, 1)]]), (under, [[(1, 2), (1, 3)]]), (shown, [[(-1, 2)]]),
    (is_body, [[ONE], [list(ONE)], [[[1]]]]), (is_world, [[TWO], [TWO[::-1]], [[[1]]]]),
    (numbered, [[TWO[::-1]], [[]], [[ONE, ONE]], [[ONE, [1]]]]),
    (show_world, [[THREE]]), (read_world, [["0 1 2\n5 -1/2 1"], ["x"], [["0 1 2"]]]),
    (meet_of, [[ONE, OTHER], [OTHER, ONE]]), (speeds_after, [[ONE, OTHER]]),
    (push, [[THREE], [[]]]), (might, [[THREE], [[]]]), (seen_from, [[ONE, (1, 2)]]), (mirrored, [[THREE]]),
    (run_of, [[THREE, 40], [THREE, 0], [CROWD, 3], [THREE, 41], [THREE, [1]]]),
    (first_wrong, [[THREE, THREE_MET, (9, 1)], [THREE, [[1], {}], (9, 1)], [THREE, [], (-1, 1)], [THREE, {}, (1, 1)]]),
    (is_run, [[THREE, THREE_MET, (9, 1)], [THREE, [], (9, 1)]]),
    (stands, [[THREE, THREE_MET, (9, 1)], [THREE, [[]], (9, 1)], [row_of(2), [], (0, 1)]]),
    (at, [[THREE, (5, 1)], [THREE, (0, 1)], [CROWD, (5, 1)], [THREE, (-5, 1)], [LONG_RUN, (100, 1)]]),
    (back, [[THREE, (5, 1)], [THREE, (0, 1)], [THREE, (-5, 1)]]), (turned, [[THREE]]),
    (passed, [[LIKES, (5, 1)], [LIKES, (0, 1)], [LIKES, (-1, 1)], [TWO, (1, 1)]]),
    (crossings, [[LIKES, (5, 1)]]), (wearer, [[LIKES, 1, (5, 1)], [LIKES, [1], (5, 1)]]), (last_crossing, [[LIKES]]),
    (in_room, [[ROOMED, (4, 1), (5, 1)], [ROOMED, (4, 1), (0, 1)], [ROOMED, (3, 1), (0, 1)]]),
    (round_of, [[ROOMED, (4, 1)], [alike(row_of(2)), (4, 1)]]),
    (walled_run, [[ROOMED, 40], [ROOMED, 0], [THREE, 3], [ROOMED, [1]]]),
    (count_of, [[1, 100], [[1], 2]]), (turning, [[1, 3], [0, [1]]]),
    (is_box, [[BOXES[0]], [list(BOXES[0])]]), (is_room, [[NINE], [list(NINE)]]), (overlap, [BOXES]),
    (run_in, [[NINE, BOXES, 5], [NINE, BOXES, 0], [NINE, BOXES[:1] * 2, 1], [[NINE], [BOXES], [1]], [NINE, BOXES, 41]]),
    (stuck_run, [[THREE], [row_of(2)], [CROWD]]), (clumps_at, [[THREE, (1, 1)], [THREE, (0, 1)], [THREE, (-1, 1)]]),
    (hull_of, [[THREE, (1, 1)], [THREE, (-1, 1)]]),
    (speeds_lost, [[ONE, OTHER, (1, 2)], [ONE, OTHER, (2, 1)]]), (lost_in, [[ONE, OTHER, (1, 2)]]),
    (run_lost, [[THREE, (1, 2), 5], [THREE, (0, 1), 0], [THREE, (2, 1), 5], [THREE, (1, 2), [5]]]),
]


def lists_in(thing):
    """All lists and dicts within a thing, itself too."""
    found = [thing] if isinstance(thing, (list, dict)) else []
    parts = thing if isinstance(thing, (list, tuple)) else thing.values() if isinstance(thing, dict) else []
    for part in parts:
        found.extend(lists_in(part))
    return found


def spoil(thing):
    for one in lists_in(thing):
        one.clear()
        if isinstance(one, list):
            one.extend([None, "spoilt"])


class Interface(unittest.TestCase):
    def test_names_and_arguments(self):
        for file, rows in INTERFACE.items():
            module = importlib.import_module("knockwright." + file)
            for row in rows.split():
                name = row.partition("(")[0]
                told = name + str(inspect.signature(getattr(module, name))).replace(" ", "")
                self.assertEqual(told, row, file)

    def test_methods(self):
        for kind, rows in METHODS.items():
            for row in rows:
                name = row.partition("(")[0]
                self.assertEqual(name + str(inspect.signature(getattr(kind, name))).replace(" ", ""), row)

    def test_errors(self):
        module = importlib.import_module("knockwright.errors")
        for name in MADE_OF_A_TEXT:
            self.assertEqual(getattr(module, name).__bases__, (KnockError,))
            self.assertEqual(str(getattr(module, name)("some words")), "some words")
        for kind in (NoWorld, NoText, Overlap, Crowd):
            self.assertEqual(kind.__bases__, (KnockError,))
        self.assertEqual(KnockError.__bases__, (ValueError,))

    def test_each_function_is_asked_here(self):
        asked = {deed.__name__ for deed, rows in ASKED}
        named = {row.partition("(")[0] for rows in INTERFACE.values() for row in rows.split()}
        self.assertEqual(asked, {name for name in named if name[0].islower()})


class NothingElseChanges(unittest.TestCase):
    def test_what_is_handed_in(self):
        for deed, rows in ASKED:
            for row in rows:
                handed = deepcopy(row)
                first = outcome(deed, handed)
                self.assertEqual(kinds(handed), kinds(row), deed.__name__)
                self.assertEqual(kinds(outcome(deed, handed)), kinds(first), deed.__name__)

    def test_what_is_done_to_a_told_list(self):
        for deed, rows in ASKED:
            for row in rows:
                handed = deepcopy(row)
                first = outcome(deed, handed)
                whole = deepcopy(first)
                spoil(first[1:])
                self.assertEqual(kinds(handed), kinds(row), deed.__name__)
                self.assertEqual(kinds(outcome(deed, handed)), kinds(whole), deed.__name__)

    def test_what_is_done_to_a_handed_list(self):
        for deed, rows in ASKED:
            for row in rows:
                handed = deepcopy(row)
                first = outcome(deed, handed)
                whole = deepcopy(first)
                spoil(handed)
                self.assertEqual(kinds(first), kinds(whole), deed.__name__)
                self.assertEqual(kinds(outcome(deed, deepcopy(row))), kinds(whole), deed.__name__)

    def test_told_lists_are_new(self):
        for deed, rows in ASKED:
            for row in rows:
                handed = deepcopy(row)
                told, again = outcome(deed, handed), outcome(deed, handed)
                ours = [id(one) for one in lists_in(handed)] + [id(one) for one in lists_in(again[1:])]
                for one in lists_in(told[1:]):
                    self.assertNotIn(id(one), ours, deed.__name__)

    def test_both_kinds_are_among_what_is_asked(self):
        ends = {outcome(deed, deepcopy(row))[0] for deed, rows in ASKED for row in rows}
        self.assertEqual(ends, {"told", "refused"})

    def test_a_line(self):
        spoilt, whole = Line(list(THREE)), Line(list(THREE))
        handed = list(THREE)
        other = Line(handed)
        spoil(handed)
        for _ in range(5):
            for ask in (Line.time, Line.bodies, Line.met, Line.next_meetings, Line.step):
                told = ask(spoilt)
                right = ask(whole)
                self.assertEqual(kinds(told), kinds(right))
                self.assertEqual(kinds(ask(other)), kinds(right))
                spoil(told)
        self.assertEqual(spoilt.met(), THREE_MET)

    def test_a_line_that_refuses(self):
        line = Line(CROWD)
        for _ in range(3):
            for ask in (line.step, line.next_meetings):
                with self.assertRaises(Crowd):
                    ask()
            self.assertEqual((line.time(), line.bodies(), line.met()), ((0, 1), CROWD, []))

    def test_a_desk(self):
        rows = ["body 3 0 2", "body 1 1 2", "body 1 1 2", "run 40", "at 9", "nothing", "at -1", "stuck", "world"]
        first, second = Desk(), Desk()
        for row in rows:
            self.assertEqual(outcome(first.say, [row]), outcome(second.say, [row]))
        self.assertEqual(first.say("world"), "1 1 2; 3 0 2")
        for thing in ODD_THINGS:
            handed = deepcopy(thing)
            outcome(first.say, [handed])
            self.assertEqual(kinds(handed), kinds(thing))
        self.assertEqual(first.say("world"), "1 1 2; 3 0 2")


class Promises(unittest.TestCase):
    def test_of_a_run(self):
        # The told run is a right paper; the bodies by it are those gone to; and back again all is as it began.
        for world in worlds_by_chance(1, 2):
            word, run, bodies, moment = run_of(world, 12)
            self.assertTrue(is_run(world, run, moment))
            self.assertEqual(stands(world, run, moment), bodies)
            self.assertEqual(at(world, moment), bodies)
            self.assertEqual((push(bodies), might(bodies)), (push(world), might(world)))
            if word == "still":
                later = pair(free(moment) + 1)
                self.assertEqual(back(at(world, later), later), world)

    def test_of_likes(self):
        chance = random.Random(2)
        for count in range(1, 9):
            world = alike(world_by_chance(chance, count), 3)
            for moment in [(0, 1), (1, 3), (5, 1)]:
                told = outcome(at, [world, moment])
                if told[0] == "told":
                    self.assertEqual(passed(world, moment), told[1])
            length = pair(free(world[-1][0]) - free(world[0][0]) + 2)
            within = [(pair(free(place) - free(world[0][0]) + 1), speed, 3) for place, speed, weight in world]
            self.assertEqual(in_room(within, length, round_of(within, length) or (1, 1)), within)

    def test_of_counts(self):
        for light, heavy in [(1, 1), (1, 9), (3, 2), (7, 100)]:
            for place, speed in [(1, -1), (Fraction(1, 7), Fraction(-9, 2))]:
                world = [body(place, 0, light), body(5, speed, heavy)]
                told = walled_run(world, 40)
                self.assertEqual((told[0], len(told[1])), ("still", count_of(light, heavy)))

    def test_of_clumps(self):
        for world in worlds_by_chance(3, 1):
            for moment in [(0, 1), (1, 3), (5, 1)] + [made[0] for made in stuck_run(world)]:
                corners, clumps = hull_of(world, moment), clumps_at(world, moment)
                self.assertEqual(len(corners), len(clumps) + 1)
                for left, right, clump in zip(corners, corners[1:], clumps):
                    grown = over(minus(right[1], left[1]), (right[0] - left[0], 1))
                    self.assertEqual((grown, right[0] - left[0]), (clump[2], clump[4]))

    def test_what_was_told_may_be_handed_in_again(self):
        # Longer numbers than any bound for what is handed in otherwise.
        word, run, bodies, moment = run_of(LONG_RUN, 40)
        self.assertGreater(bodies[0][0][1], 10 ** 100)
        self.assertEqual(stands(LONG_RUN, run, moment), bodies)
        self.assertEqual(push(bodies), push(LONG_RUN))
        self.assertEqual(turned(turned(bodies)), bodies)
        later = Line(LONG_RUN)
        for _ in range(40):
            later.step()
        self.assertEqual((later.met(), later.bodies(), later.time()), (run, bodies, moment))


if __name__ == "__main__":
    unittest.main()
