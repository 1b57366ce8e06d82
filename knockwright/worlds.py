"""Bodies (place, speed, weight), and worlds: lists of one to twelve of them by rising places."""

from knockwright.errors import NoBody, NoWorld
from knockwright.ratios import is_fraction, is_whole, under

MOST_BODIES = 12
MOST_WEIGHT = 1000


def is_weight(thing):
    return is_whole(thing) and 1 <= thing <= MOST_WEIGHT


def is_body(thing):
    if not isinstance(thing, tuple) or len(thing) != 3:
        return False
    return is_fraction(thing[0]) and is_fraction(thing[1]) and is_weight(thing[2])


def are_bodies(thing):
    return isinstance(thing, list) and all([is_body(part) for part in thing])


def first_misplaced(bodies):
    if len(bodies) == 0:
        return 0
    for number in range(1, len(bodies)):
        if number == MOST_BODIES or not under(bodies[number - 1][0], bodies[number][0]):
            return number
    return None


def is_world(thing):
    return are_bodies(thing) and first_misplaced(thing) is None


def spot_for(place, row):
    low = 0
    high = len(row)
    while low < high:
        middle = (low + high) // 2
        if under(place, row[middle][0]):
            high = middle
        else:
            low = middle + 1
    return low


def by_places(bodies):
    # Tuples of Python's own would be put in order by their tops, so under decides instead.
    row = []
    for body in bodies:
        row.insert(spot_for(body[0], row), body)
    return row


def numbered(bodies):
    if not are_bodies(bodies):
        raise NoBody("only a list of bodies can be numbered")
    world = by_places(bodies)
    at = first_misplaced(world)
    if at is not None:
        raise NoWorld(at)
    return world
