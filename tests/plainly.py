"""Runs gone through once more, in another way: by all two bodies, not by neighbours, and in Python's own fractions."""

from fractions import Fraction

from tests.samples import pair


def freed(bodies):
    return [[Fraction(*place), Fraction(*speed), weight] for place, speed, weight in bodies]


def bound(bodies):
    return [(pair(place), pair(speed), weight) for place, speed, weight in bodies]


def time_ahead(bodies):
    """The time up to the next meeting of any two, None where no two meet."""
    times = []
    for right in range(len(bodies)):
        for left in range(right):
            gain = bodies[left][1] - bodies[right][1]
            way = bodies[right][0] - bodies[left][0]
            if gain > 0 and way > 0:
                times.append(way / gain)
    return min(times, default=None)


def gone_straight(bodies, time):
    return [[place + speed * time, speed, weight] for place, speed, weight in bodies]


def groups_of(bodies):
    """The numbers of those that are at one place, by places; each two or more."""
    places = [place for place, speed, weight in bodies]
    groups = [[k for k in range(len(places)) if places[k] == place] for place in sorted(set(places))]
    return [group for group in groups if len(group) > 1]


def knocked(bodies, left):
    first, second = bodies[left], bodies[left + 1]
    middle = (first[2] * first[1] + second[2] * second[1]) / (first[2] + second[2])
    first[1] = 2 * middle - first[1]
    second[1] = 2 * middle - second[1]


def plain_run(world, most):
    """What point 32 tells, and behind it the crowd that comes next, as (moment, place, numbers) or None."""
    bodies = freed(world)
    run = []
    moment = Fraction(0)
    for count in range(most + 1):
        time = time_ahead(bodies)
        if time is None:
            return ("still", run, bound(bodies), pair(moment)), None
        come = gone_straight(bodies, time)
        groups = groups_of(come)
        crowds = [group for group in groups if len(group) > 2]
        crowd = None
        if crowds:
            crowd = (pair(moment + time), pair(come[crowds[0][0]][0]), tuple(crowds[0]))
        if count == most:
            return ("more", run, bound(bodies), pair(moment)), crowd
        if crowds:
            return ("crowd", run, bound(bodies), pair(moment)), crowd
        bodies = come
        moment += time
        for group in groups:
            run.append((pair(moment), pair(bodies[group[0]][0]), group[0]))
            knocked(bodies, group[0])
