"""Likes: bodies of one weight, told of by their straight goings alone."""

from knockwright.errors import NoBody, NoWorld
from knockwright.goings import joint_moment, led, refuse_below_nought
from knockwright.ratios import is_whole, under


def refuse_unlike(world):
    for number in range(1, len(world)):
        if world[number][2] != world[0][2]:
            raise NoWorld(number)


def is_ahead(one, other):
    # Those at one place just met: behind that the slower one is to the left.
    if one[0] == other[0]:
        return under(one[1], other[1])
    return under(one[0], other[0])


def order_of(bodies):
    order = []
    for number in range(len(bodies)):
        spot = 0
        while spot < len(order) and is_ahead(bodies[order[spot]], bodies[number]):
            spot += 1
        order.insert(spot, number)
    return order


def in_order(bodies):
    return [bodies[number] for number in order_of(bodies)]


def straight(world, moment):
    return [led(body, moment) for body in world]


def passed(world, moment):
    refuse_unlike(world)
    refuse_below_nought(moment)
    return in_order(straight(world, moment))


def passings(world):
    moments = []
    for right in range(len(world)):
        for left in range(right):
            moment = joint_moment(world[left], world[right])
            if moment is not None:
                moments.append(moment)
    return moments


def crossings(world, moment):
    refuse_unlike(world)
    refuse_below_nought(moment)
    return len([passing for passing in passings(world) if not under(moment, passing)])


def wearer(world, number, moment):
    refuse_unlike(world)
    refuse_below_nought(moment)
    if not is_whole(number) or not 0 <= number < len(world):
        raise NoBody("there is no body with this number")
    return order_of(straight(world, moment))[number]


def last_crossing(world):
    refuse_unlike(world)
    last = None
    for passing in passings(world):
        if last is None or under(last, passing):
            last = passing
    return last
