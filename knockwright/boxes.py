"""Boxes (left, low, wide, high, right, up, weight) in the plane, and rooms (wide, high) for them."""

from knockwright.goings import NOUGHT, place_at
from knockwright.ratios import is_fraction, minus, plus, under
from knockwright.worlds import is_weight

# The two ways, as numbers: of a box the place of the near side (left or low) is at way, the breadth at SIZES + way
# and the speed at SPEEDS + way; of a room the place of the wall beyond is at way.
ACROSS = 0
ALONG = 1
SIZES = 2
SPEEDS = 4


def is_breadth(thing):
    return is_fraction(thing) and under(NOUGHT, thing)


def is_box(thing):
    if not isinstance(thing, tuple) or len(thing) != 7:
        return False
    if not all([is_fraction(thing[k]) for k in (0, 1, 4, 5)]):
        return False
    return is_breadth(thing[2]) and is_breadth(thing[3]) and is_weight(thing[6])


def is_room(thing):
    return isinstance(thing, tuple) and len(thing) == 2 and is_breadth(thing[0]) and is_breadth(thing[1])


def far_side(box, way):
    return plus(box[way], box[SIZES + way])


def is_within(box, room):
    for way in (ACROSS, ALONG):
        if under(box[way], NOUGHT) or under(room[way], far_side(box, way)):
            return False
    return True


def have_in_common(one, other, way):
    return under(one[way], far_side(other, way)) and under(other[way], far_side(one, way))


def overlap(one, other):
    return have_in_common(one, other, ACROSS) and have_in_common(one, other, ALONG)


def touches(one, other, way):
    return far_side(one, way) == other[way]


def are_beside(one, other, way):
    return touches(one, other, way) and have_in_common(one, other, 1 - way)


def are_at_a_corner(one, other):
    across = touches(one, other, ACROSS) or touches(other, one, ACROSS)
    return across and (touches(one, other, ALONG) or touches(other, one, ALONG))


def box_at(box, moment):
    left = place_at((box[0], box[4]), moment)
    low = place_at((box[1], box[5]), moment)
    return (left, low) + box[2:]


# Each side of a box goes as a body does: at a place, with a speed and the weight of all.


def near_going(box, way):
    return (box[way], box[SPEEDS + way], box[6])


def far_going(box, way):
    return (far_side(box, way), box[SPEEDS + way], box[6])


def with_near_going(box, way, going):
    parts = list(box)
    parts[way] = going[0]
    parts[SPEEDS + way] = going[1]
    return tuple(parts)


def with_far_going(box, way, going):
    return with_near_going(box, way, (minus(going[0], box[SIZES + way]), going[1]))
