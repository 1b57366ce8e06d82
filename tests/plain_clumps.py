"""Bodies that stick, gone through once more in Python's own fractions; and hulls, by the words of point 93."""

from fractions import Fraction

from tests.plainly import freed
from tests.samples import pair


def time_to_touch(clumps):
    times = []
    for right in range(len(clumps)):
        for left in range(right):
            gain = clumps[left]["speed"] - clumps[right]["speed"]
            if gain > 0:
                times.append((clumps[right]["place"] - clumps[left]["place"]) / gain)
    return min(times, default=None)


def gone_on(clumps, time):
    return [dict(clump, place=clump["place"] + clump["speed"] * time) for clump in clumps]


def made_one(parts):
    weight = sum(part["weight"] for part in parts)
    speed = sum(part["weight"] * part["speed"] for part in parts) / weight
    numbers = sorted(number for part in parts for number in part["numbers"])
    return {"place": parts[0]["place"], "speed": speed, "weight": weight, "numbers": numbers}


def stuck_together(clumps):
    """One clump for each place; and those of them that are made of several."""
    rows = []
    for place in sorted({clump["place"] for clump in clumps}):
        parts = [clump for clump in clumps if clump["place"] == place]
        rows.append((made_one(parts), len(parts) > 1))
    return [clump for clump, new in rows], [clump for clump, new in rows if new]


def plain_stuck(world, moment=None):
    """The tuples of point 91, up to a moment where one is told, and the clumps of point 92 then."""
    clumps = [
        {"place": place, "speed": speed, "weight": weight, "numbers": [k]}
        for k, (place, speed, weight) in enumerate(freed(world))
    ]
    now, run = Fraction(0), []
    while True:
        time = time_to_touch(clumps)
        if time is None or (moment is not None and now + time > Fraction(*moment)):
            break
        now += time
        clumps, made = stuck_together(gone_on(clumps, time))
        run.extend((pair(now), pair(one["place"]), one["numbers"][0], one["numbers"][-1]) for one in made)
    rest = 0 if moment is None else Fraction(*moment) - now
    told = [
        (one["numbers"][0], one["numbers"][-1], pair(one["place"]), pair(one["speed"]), one["weight"])
        for one in gone_on(clumps, rest)
    ]
    return run, told


def plain_points(world, moment):
    places = [place + speed * Fraction(*moment) for place, speed, weight in freed(world)]
    weights = [weight for place, speed, weight in world]
    return [
        (sum(weights[:k]), sum((w * p for w, p in zip(weights[:k], places)), Fraction(0)))
        for k in range(len(world) + 1)
    ]


def height_of_line(left, right, x):
    return left[1] + (right[1] - left[1]) / (right[0] - left[0]) * (x - left[0])


def plain_hull(world, moment):
    points = plain_points(world, moment)
    corners = []
    for k, point in enumerate(points):
        lines = [height_of_line(left, right, point[0]) for left in points[:k] for right in points[k + 1:]]
        if all(point[1] < height for height in lines):
            corners.append((point[0], pair(point[1])))
    return corners
