"""Two bodies that meet and part; push and might; bodies as they are seen along the way and in a mirror."""

from knockwright.errors import NoWorld
from knockwright.goings import ALL, NOUGHT, joint_moment, mixed, place_at
from knockwright.ratios import minus, plus, times, under


def meet_of(one, other):
    if not under(one[0], other[0]):
        raise NoWorld(1)
    moment = joint_moment(one, other)
    if moment is None:
        return None
    return (moment, place_at(one, moment))


def speeds_with(one, other, share):
    left = mixed(one[1], other[1], one[2], other[2], share)
    right = mixed(other[1], one[1], other[2], one[2], share)
    return (left, right)


def speeds_after(one, other):
    return speeds_with(one, other, ALL)


def push_of(body):
    return times((body[2], 1), body[1])


def total(numbers):
    whole = NOUGHT
    for number in numbers:
        whole = plus(whole, number)
    return whole


def push(bodies):
    return total([push_of(body) for body in bodies])


def might(bodies):
    return total([times(push_of(body), body[1]) for body in bodies])


def seen_from(body, speed):
    return (body[0], minus(body[1], speed), body[2])


def turned_about(number):
    return minus(NOUGHT, number)


def mirrored(world):
    return [(turned_about(body[0]), turned_about(body[1]), body[2]) for body in reversed(world)]
