"""Likes in a room: between a wall at the place 0 and another one at its length."""

from knockwright.errors import NoWorld
from knockwright.goings import NOUGHT, place_at, refuse_below_nought
from knockwright.knocks import turned_about
from knockwright.likes import in_order, refuse_unlike
from knockwright.ratios import common_divisor, fraction, minus, over, plus, times, under

TWO = (2, 1)


def refuse_outside(world, length):
    for number in range(len(world)):
        place = world[number][0]
        if not under(NOUGHT, place) or not under(place, length):
            raise NoWorld(number)


def led_back(place, ring):
    often = place[0] * ring[1] // (place[1] * ring[0])
    return minus(place, times((often, 1), ring))


def pace_of(body):
    return (abs(body[1][0]), body[1][1])


def folded(body, length, moment):
    ring = times(TWO, length)
    spot = led_back(place_at(body, moment), ring)
    if spot == NOUGHT:
        return (spot, pace_of(body), body[2])
    if spot == length:
        return (spot, turned_about(pace_of(body)), body[2])
    if under(length, spot):
        return (minus(ring, spot), turned_about(body[1]), body[2])
    return (spot, body[1], body[2])


def in_room(world, length, moment):
    refuse_unlike(world)
    refuse_outside(world, length)
    refuse_below_nought(moment)
    return in_order([folded(body, length, moment) for body in world])


# To and fro in a room is round and round on a ring twice as long, all one way: on its first half bodies go to the
# right, on its second half to the left. So all is as at first when, of each pace, the spots on the ring are the same
# ones again, whoever stands there.


def ring_spot(body, ring):
    return minus(ring, body[0]) if under(body[1], NOUGHT) else body[0]


def fits(spots, way, ring):
    return all([led_back(plus(spot, way), ring) in spots for spot in spots])


def least_way(spots, ring):
    parts = len(spots)
    # Whoever turns the spots into themselves turns them by an even part of the ring, of no more parts than spots.
    while not fits(spots, over(ring, (parts, 1)), ring):
        parts -= 1
    return over(ring, (parts, 1))


def common_multiple(one, other):
    top = one[0] // common_divisor(one[0], other[0]) * other[0]
    return fraction(top, common_divisor(one[1], other[1]))


def spots_by_pace(world, ring):
    spots = {}
    for body in world:
        pace = pace_of(body)
        if pace != NOUGHT:
            spots.setdefault(pace, []).append(ring_spot(body, ring))
    return spots


def round_of(world, length):
    refuse_unlike(world)
    refuse_outside(world, length)
    ring = times(TWO, length)
    spots = spots_by_pace(world, ring)
    whole = None
    for pace in spots:
        moment = over(least_way(spots[pace], ring), pace)
        whole = moment if whole is None else common_multiple(whole, moment)
    return whole
