"""Runs of boxes gone through once more, by the words of points 82 to 84: at each moment at which some sides are level
all boxes are looked at as they stand then."""

from fractions import Fraction

from tests.plainly import knocked_otherwise
from tests.samples import pair


def box(left, low, wide=1, high=1, right=0, up=0, weight=1):
    return tuple(pair(Fraction(part)) for part in (left, low, wide, high, right, up)) + (weight,)


def room(wide, high):
    return (pair(Fraction(wide)), pair(Fraction(high)))


class Free:
    """A box of Python's own fractions: for each way, 0 across and 1 along, near side, size and speed."""

    def __init__(self, told):
        parts = [Fraction(*part) for part in told[:6]]
        self.near, self.size, self.speed = parts[0:2], parts[2:4], parts[4:6]
        self.weight = told[6]

    def far(self, way):
        return self.near[way] + self.size[way]

    def go(self, time):
        self.near = [place + speed * time for place, speed in zip(self.near, self.speed)]

    def bound(self):
        return tuple(pair(part) for part in self.near + self.size + self.speed) + (self.weight,)


def gone(boxes, time):
    """New boxes, gone straight."""
    new = [Free(one.bound()) for one in boxes]
    for one in new:
        one.go(time)
    return new


def level_times(boxes, walls):
    """The times from now on at which some side is level with another one's or with a wall."""
    times = {Fraction(0)}
    for way in (0, 1):
        sides = [(one.near[way], one.speed[way]) for one in boxes] + [(one.far(way), one.speed[way]) for one in boxes]
        sides += [(Fraction(0), 0), (walls[way], 0)]
        for place, speed in sides:
            for far, pace in sides:
                if speed != pace:
                    times.add((far - place) / (speed - pace))
    return sorted(time for time in times if time >= 0)


def width_in_common(one, other, way):
    return min(one.far(way), other.far(way)) - max(one.near[way], other.near[way])


def level_pairs(boxes, walls, way):
    """All (one, other) that touch this way, the one's far side at the other's near side; -1 and -2 for the walls."""
    pairs = [(-1, k) for k, one in enumerate(boxes) if one.near[way] == 0]
    pairs += [(k, -2) for k, one in enumerate(boxes) if one.far(way) == walls[way]]
    for k, one in enumerate(boxes):
        for j, other in enumerate(boxes):
            if k != j and one.far(way) == other.near[way] and width_in_common(one, other, 1 - way) > 0:
                pairs.append((k, j))
    return pairs


def is_closing(boxes, way, one, other):
    left = boxes[one].speed[way] if one >= 0 else 0
    right = boxes[other].speed[way] if other >= 0 else 0
    return left > right


def met_now(boxes, walls):
    """The meetings of boxes as they stand, as (way, one, other), in their order."""
    return sorted(
        (way, one, other) for way in (0, 1) for one, other in level_pairs(boxes, walls, way)
        if is_closing(boxes, way, one, other)
    )


def corners(boxes):
    """The pairs (k, j), k < j, that stand corner to corner."""
    return [
        (k, j) for j in range(len(boxes)) for k in range(j)
        if all(width_in_common(boxes[k], boxes[j], way) == 0 for way in (0, 1))
    ]


def closes_both_ways(boxes, k, j):
    for way in (0, 1):
        left, right = (k, j) if boxes[k].near[way] < boxes[j].near[way] else (j, k)
        if not is_closing(boxes, way, left, right):
            return False
    return True


def crowd_sorts(boxes, walls):
    """Which sorts of crowd there are as the boxes stand: "two", "between", "corner", "close"."""
    met = met_now(boxes, walls)
    numbers = [number for way, one, other in met for number in (one, other) if number >= 0]
    sorts = set()
    if len(numbers) > len(set(numbers)):
        sorts.add("two")
    for way, one, other in met:
        for left, right in level_pairs(boxes, walls, way):
            if (right == one and one >= 0) or (left == other and other >= 0):
                sorts.add("between")
    for k, j in corners(boxes):
        if k in numbers or j in numbers:
            sorts.add("corner")
        if closes_both_ways(boxes, k, j):
            sorts.add("close")
    return sorts


def next_boxes(boxes, walls):
    """The time to the next moment and the boxes as they stand then; None where none comes."""
    for time in level_times(boxes, walls):
        come = gone(boxes, time)
        if met_now(come, walls) or crowd_sorts(come, walls):
            return time, come
    return None


def part_all(boxes, met):
    for way, one, other in met:
        left = boxes[one] if one >= 0 else None
        right = boxes[other] if other >= 0 else None
        rows = [[None, two.speed[way], two.weight] if two else [None, 0, None] for two in (left, right)]
        knocked_otherwise(rows[0], rows[1], 1)
        for two, row in zip((left, right), rows):
            if two:
                two.speed[way] = row[1]


def plain_run_in(walls, boxes, most):
    """What point 85 tells, and behind it the sorts of the crowd that comes next."""
    walls = [Fraction(*wall) for wall in walls]
    boxes = [Free(one) for one in boxes]
    run, now, count = [], Fraction(0), 0
    while True:
        stop = next_boxes(boxes, walls)
        told = (run, [one.bound() for one in boxes], pair(now))
        if stop is None:
            return ("still",) + told, set()
        sorts = crowd_sorts(stop[1], walls)
        if count == most or sorts:
            return ("more" if count == most else "crowd",) + told, sorts
        now, boxes, count = now + stop[0], stop[1], count + 1
        met = met_now(boxes, walls)
        run.extend((pair(now), ("across", "along")[way], one, other) for way, one, other in met)
        part_all(boxes, met)
