"""Things that several tests hand in."""

from copy import deepcopy
from fractions import Fraction

LONG = 3 ** 90          # 43 figures
LONGER = 7 ** 473       # 400 figures
HUNDRED = 10 ** 99 + 7  # 100 figures


def nested(kind, depth):
    thing = kind()
    for _ in range(depth - 1):
        thing = kind([thing])
    return thing


def nested_dict(depth):
    thing = {}
    for _ in range(depth - 1):
        thing = {"in": thing}
    return thing


# None of these is a whole number, a fraction, a body, a world or a list of bodies.
ODD_THINGS = [
    True, False, None,
    "", "1", "-7", "1/2", "(1, 2)", "place speed weight", "a" * 500,
    [1], [1, 2], [0, 1], [[1, 2], [1, 2], 1], [None], [True], ["1"], [{}], [HUNDRED, -HUNDRED],
    (), (1,), (1, 2, 3), (None, None), ("1", "2"), ([1], [2]), ((1, 1), (1, 1)), (1, 2, 3, 4), ({}, {}),
    {}, {1: 2}, {0: 1, 1: 2}, {"place": (0, 1)}, {(0, 1): (1, 1)},
    nested(list, 20), nested(tuple, 20), nested_dict(20),
]

WHOLE_NUMBERS = [0, 1, -1, 2, 12, 1000, HUNDRED, -HUNDRED]


def pair(number):
    """The tuple that a Fraction of Python's own amounts to."""
    return (number.numerator, number.denominator)


def body(place, speed=0, weight=1):
    return (pair(Fraction(place)), pair(Fraction(speed)), weight)


def row_of(count):
    return [body(place) for place in range(count)]


def world_of(*rows):
    """The world of bodies told as (place, speed) or (place, speed, weight)."""
    return [body(*row) for row in rows]


def fraction_by_chance(chance, most, bottom=6):
    return Fraction(chance.randint(-most, most), chance.randint(1, bottom))


def world_by_chance(chance, count, most=20, bottom=6, weight=1000):
    places = set()
    while len(places) < count:
        places.add(fraction_by_chance(chance, most, bottom))
    speeds = [fraction_by_chance(chance, most, bottom) for _ in range(count)]
    return [body(place, speed, chance.randint(1, weight)) for place, speed in zip(sorted(places), speeds)]


def kinds(thing):
    """The thing with its kinds written beside, so that True and 1 are not taken for one."""
    if isinstance(thing, (list, tuple)):
        return (type(thing).__name__, [kinds(part) for part in thing])
    if isinstance(thing, dict):
        return ("dict", [(kinds(key), kinds(thing[key])) for key in thing])
    return (type(thing).__name__, thing)


def unchanged(case, deed, *handed):
    """Does the deed twice; fails if it changes what is handed in, or tells another thing the second time."""
    before = deepcopy(handed)
    first = outcome(deed, handed)
    case.assertEqual(kinds(handed), kinds(before))
    case.assertEqual(kinds(outcome(deed, handed)), kinds(first))
    case.assertEqual(kinds(outcome(deed, before)), kinds(first))


def outcome(deed, handed):
    try:
        return ("told", deed(*handed))
    except ValueError as error:
        return ("refused", type(error).__name__, [part for part in error.args if isinstance(part, int)])
