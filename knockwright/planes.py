"""Runs of boxes in a room of the plane: they go straight until some meet one another or a wall."""

from knockwright.boxes import ACROSS, ALONG, are_at_a_corner, are_beside, box_at, far_going, have_in_common, is_box
from knockwright.boxes import is_room, is_within, near_going, overlap, with_far_going, with_near_going
from knockwright.errors import NoBox, Overlap
from knockwright.goings import ALL, NOUGHT, behind, joint_moment, refuse_number_of_moments
from knockwright.knocks import turned_about
from knockwright.lines import run_along
from knockwright.ratios import minus, plus, under

MOST_BOXES = 6
WORDS = ("across", "along")
# The numbers of the walls: the one at 0, and the one beyond.
NEAR_WALL = -1
FAR_WALL = -2


def refuse_boxes(room, boxes):
    if not is_room(room):
        raise NoBox("a room is a tuple of two fractions above 0")
    if not isinstance(boxes, list) or not 1 <= len(boxes) <= MOST_BOXES:
        raise NoBox("boxes are a list of one to six")
    if not all([is_box(box) and is_within(box, room) for box in boxes]):
        raise NoBox("each box lies within the room")
    for one in range(len(boxes)):
        for other in range(one + 1, len(boxes)):
            if overlap(boxes[one], boxes[other]):
                raise Overlap(one, other)


# A wall is taken for a box that lies all along it outside the room, at rest, and without a weight.


def walls_of(room):
    wide = room[0]
    high = room[1]
    return {
        (ACROSS, NEAR_WALL): ((-1, 1), NOUGHT, (1, 1), high, NOUGHT, NOUGHT, None),
        (ACROSS, FAR_WALL): (wide, NOUGHT, (1, 1), high, NOUGHT, NOUGHT, None),
        (ALONG, NEAR_WALL): (NOUGHT, (-1, 1), wide, (1, 1), NOUGHT, NOUGHT, None),
        (ALONG, FAR_WALL): (NOUGHT, high, wide, (1, 1), NOUGHT, NOUGHT, None),
    }


def parted(own, far):
    if far[2] is None:
        return (minus(plus(far[0], far[0]), own[0]), turned_about(own[1]), own[2])
    return behind(own, far, ALL)


def all_pairs(count):
    pairs = []
    for way in (ACROSS, ALONG):
        for one in range(NEAR_WALL, count):
            for other in [FAR_WALL] + list(range(count)):
                if one != other and (one >= 0 or other >= 0):
                    pairs.append((way, one, other))
    return pairs


# As a course on a line, a plane is led from one moment to the next, and keeps of each box its straight going: a box,
# too, but at the places where it would have been at the moment 0. Who may meet is told by pairs (way, one, other), in
# the order of the meetings.


class Plane:
    def __init__(self, room, boxes):
        self.walls = walls_of(room)
        self.goings = list(boxes)
        self.now = NOUGHT
        self.gone_through = 0
        # For each pair when the one's far side comes to the other's near side, None where they don't close.
        self.joints = {}
        for pair in all_pairs(len(boxes)):
            self.joints[pair] = self.joint_of(pair)
        self.look_ahead()

    def one_of(self, pair, boxes):
        return boxes[pair[1]] if pair[1] >= 0 else self.walls[(pair[0], pair[1])]

    def other_of(self, pair, boxes):
        return boxes[pair[2]] if pair[2] >= 0 else self.walls[(pair[0], pair[2])]

    def joint_of(self, pair):
        one = far_going(self.one_of(pair, self.goings), pair[0])
        other = near_going(self.other_of(pair, self.goings), pair[0])
        return joint_moment(one, other)

    def bodies_at(self, moment):
        return [box_at(going, moment) for going in self.goings]

    def look_ahead(self):
        self.coming = None
        for pair in self.joints:
            moment = self.joints[pair]
            if self.is_sooner(moment) and (self.meet_at(pair, moment) or self.close_at_a_corner(pair)):
                self.coming = moment
        self.due = [pair for pair in self.joints if self.is_coming(pair) and self.meet_at(pair, self.coming)]

    def is_sooner(self, moment):
        # Two that passed one another at a distance were level with one another at a moment that is gone.
        if moment is None or under(moment, self.now):
            return False
        return self.coming is None or under(moment, self.coming)

    def is_coming(self, pair):
        return self.coming is not None and self.joints[pair] == self.coming

    def meet_at(self, pair, moment):
        one = box_at(self.one_of(pair, self.goings), moment)
        other = box_at(self.other_of(pair, self.goings), moment)
        return have_in_common(one, other, 1 - pair[0])

    def close_at_a_corner(self, pair):
        if pair[1] < 0 or pair[2] < 0:
            return False
        aside = 1 - pair[0]
        return self.joints[pair] in (self.joints[(aside, pair[1], pair[2])], self.joints[(aside, pair[2], pair[1])])

    def meetings(self):
        return [(self.coming, WORDS[pair[0]], pair[1], pair[2]) for pair in self.due]

    def boxes_met(self):
        numbers = [pair[1] for pair in self.due] + [pair[2] for pair in self.due]
        return [number for number in numbers if number >= 0]

    def is_crowded(self):
        boxes = self.bodies_at(self.coming)
        return self.has_two_meetings() or self.is_hemmed_in(boxes) or self.has_a_corner(boxes)

    def has_two_meetings(self):
        numbers = self.boxes_met()
        return len(set(numbers)) < len(numbers)

    def is_hemmed_in(self, boxes):
        for near in self.joints:
            if are_beside(self.one_of(near, boxes), self.other_of(near, boxes), near[0]):
                for pair in self.due:
                    if pair[0] == near[0] and (pair[1] == near[2] or pair[2] == near[1]):
                        return True
        return False

    def has_a_corner(self, boxes):
        numbers = self.boxes_met()
        for other in range(len(boxes)):
            for one in range(other):
                if (one in numbers or other in numbers) and are_at_a_corner(boxes[one], boxes[other]):
                    return True
        return any([self.is_coming(pair) and self.close_at_a_corner(pair) for pair in self.joints])

    def go_on(self):
        self.now = self.coming
        self.gone_through += 1
        for pair in self.due:
            self.part(pair)
        self.look_ahead()

    def part(self, pair):
        way = pair[0]
        one = self.one_of(pair, self.goings)
        other = self.other_of(pair, self.goings)
        left = far_going(one, way)
        right = near_going(other, way)
        if pair[1] >= 0:
            self.goings[pair[1]] = with_far_going(one, way, parted(left, right))
        if pair[2] >= 0:
            self.goings[pair[2]] = with_near_going(other, way, parted(right, left))
        changed = [number for number in pair[1:] if number >= 0]
        for near in list(self.joints):
            if near[0] == way and (near[1] in changed or near[2] in changed):
                self.joints[near] = self.joint_of(near)


def run_in(room, boxes, most):
    refuse_boxes(room, boxes)
    refuse_number_of_moments(most)
    return run_along(Plane(room, boxes), most)
