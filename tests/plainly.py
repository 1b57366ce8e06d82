"""Runs gone through once more, in another way: by all two bodies, not by neighbours, and in Python's own fractions."""

from fractions import Fraction
from functools import lru_cache

from tests.samples import LONG_RUN, pair, together


def freed(bodies):
    return [[Fraction(*place), Fraction(*speed), weight] for place, speed, weight in bodies]


def bound(bodies):
    return [(pair(place), pair(speed), weight) for place, speed, weight in bodies]


def time_ahead(bodies):
    """The time up to the next meeting of any two, None where no two meet."""
    times = []
    for right in range(len(bodies)):
        for left in range(right):
            gain = bodies[left][1] - bodies[right][1]
            way = bodies[right][0] - bodies[left][0]
            if gain > 0 and way > 0:
                times.append(way / gain)
    return min(times, default=None)


def gone_straight(bodies, time):
    return [[place + speed * time, speed, weight] for place, speed, weight in bodies]


def groups_of(bodies):
    """The numbers of those that are at one place, by places; each two or more."""
    places = [place for place, speed, weight in bodies]
    groups = [[k for k in range(len(places)) if places[k] == place] for place in sorted(set(places))]
    return [group for group in groups if len(group) > 1]


def knocked(bodies, left):
    first, second = bodies[left], bodies[left + 1]
    middle = (first[2] * first[1] + second[2] * second[1]) / (first[2] + second[2])
    first[1] = 2 * middle - first[1]
    second[1] = 2 * middle - second[1]


def next_stop(bodies, now):
    """The next moment at which some meet, the bodies as they come there, and those that are at one place."""
    time = time_ahead(bodies)
    if time is None:
        return None
    come = gone_straight(bodies, time)
    return now + time, come, groups_of(come)


def first_crowd(moment, come, groups):
    for group in groups:
        if len(group) > 2:
            return (pair(moment), pair(come[group[0]][0]), tuple(group))
    return None


def met_at(moment, bodies, groups):
    """Lets the pairs part, and tells their meetings."""
    for group in groups:
        knocked(bodies, group[0])
    return [(pair(moment), pair(bodies[group[0]][0]), group[0]) for group in groups]


def plain_run(world, most):
    """What point 32 tells, and behind it the crowd that comes next, as (moment, place, numbers) or None."""
    bodies = freed(world)
    run = []
    now = Fraction(0)
    for count in range(most + 1):
        stop = next_stop(bodies, now)
        if stop is None:
            return ("still", run, bound(bodies), pair(now)), None
        crowd = first_crowd(*stop)
        if count == most or crowd is not None:
            word = "more" if count == most else "crowd"
            return (word, run, bound(bodies), pair(now)), crowd
        now, bodies, groups = stop
        run.extend(met_at(now, bodies, groups))


def plain_walk(world, moment):
    """All meetings up to a moment; behind them ("bodies", a list), ("crowd", a tuple) or ("many", None)."""
    return walk_once(tuple(world), moment)


@lru_cache(maxsize=None)
def walk_once(world, moment):
    bodies = freed(world)
    run = []
    now = Fraction(0)
    for count in range(41):
        stop = next_stop(bodies, now)
        if stop is None or stop[0] > Fraction(*moment):
            return run, ("bodies", bound(gone_straight(bodies, Fraction(*moment) - now)))
        crowd = first_crowd(*stop)
        if count == 40:
            return run, ("many", None)
        if crowd is not None:
            return run, ("crowd", crowd)
        now, bodies, groups = stop
        run.extend(met_at(now, bodies, groups))


def is_plain_fraction(thing):
    if type(thing) is not tuple or [type(part) for part in thing] != [int, int]:
        return False
    return thing[1] > 0 and Fraction(*thing).denominator == thing[1]


def differs(thing, meeting):
    if type(thing) is not tuple or len(thing) != 3 or type(thing[2]) is not int:
        return "form"
    if not is_plain_fraction(thing[0]) or not is_plain_fraction(thing[1]):
        return "form"
    for word, part, right in zip(("moment", "place", "number"), thing, meeting):
        if part != right:
            return word
    return None


def plain_wrong(world, paper, moment):
    """What point 41 tells of a paper; "many" where it is refused with TooMany."""
    run, end = plain_walk(world, moment)
    for k, meeting in enumerate(run):
        word = differs(paper[k], meeting) if k < len(paper) else "fewer"
        if word is not None:
            return (word, k)
    if end[0] == "many":
        return "many"
    if end[0] == "crowd":
        return ("crowd", len(run))
    return ("more", len(run)) if len(paper) > len(run) else None


LONG_MOMENTS = [Fraction(*meeting[0]) for meeting in plain_run(LONG_RUN, 42)[0][1]]


def crowd_behind(count):
    """LONG_RUN and, far to the right, three that come together just behind so many moments; and when they do."""
    moment = (LONG_MOMENTS[count - 1] + LONG_MOMENTS[count]) / 2
    return LONG_RUN + together(1000, moment, [1, 0, -1]), pair(moment)


def hemmed_in(world, near, far):
    """The free bodies with the walls among them, as bodies at rest without a weight."""
    rows = freed(world)
    if near is not None:
        rows.insert(0, [Fraction(near), Fraction(0), None])
    if far is not None:
        rows.append([Fraction(far), Fraction(0), None])
    return rows


def knocked_otherwise(first, second, share):
    """A wall turns about; each of two bodies is turned about as their middle sees it, with a share of its pace."""
    if first[2] is None or second[2] is None:
        first[1], second[1] = -first[1], -second[1]
        return
    middle = (first[2] * first[1] + second[2] * second[1]) / (first[2] + second[2])
    first[1] = middle - share * (first[1] - middle)
    second[1] = middle - share * (second[1] - middle)


def newly_together(old, new):
    """Groups of those that are at one place, where some were apart just ahead."""
    return [group for group in groups_of(new) if len({old[k][0] for k in group}) > 1]


def plain_course(world, most, near=None, far=None, share=1):
    """A run as point 32 tells it, perhaps with walls at the places near and far, perhaps with a share."""
    rows = hemmed_in(world, near, far)
    shift = 0 if near is None else 1
    run = []
    now = Fraction(0)
    word = None
    count = 0
    while word is None:
        time = time_ahead(rows)
        come = gone_straight(rows, time or 0)
        groups = newly_together(rows, come)
        if time is None:
            word = "still"
        elif count == most:
            word = "more"
        elif max(len(group) for group in groups) > 2:
            word = "crowd"
        else:
            rows, now, count = come, now + time, count + 1
            for group in groups:
                knocked_otherwise(rows[group[0]], rows[group[1]], share)
                run.append((pair(now), pair(rows[group[0]][0]), group[0] - shift))
    bodies = [row for row in rows if row[2] is not None]
    return (word, run, bound(bodies), pair(now))
