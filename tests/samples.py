"""Things that several tests hand in."""

import random
from copy import deepcopy
from fractions import Fraction

from knockwright.errors import Crowd, NoWorld

LONG = 3 ** 90          # 43 figures
LONGER = 7 ** 473       # 400 figures
HUNDRED = 10 ** 99 + 7  # 100 figures


def nested(kind, depth):
    thing = kind()
    for _ in range(depth - 1):
        thing = kind([thing])
    return thing


def nested_dict(depth):
    thing = {}
    for _ in range(depth - 1):
        thing = {"in": thing}
    return thing


# None of these is a whole number, a fraction, a body, a world or a list of bodies.
ODD_THINGS = [
    True, False, None,
    "", "1", "-7", "1/2", "(1, 2)", "place speed weight", "a" * 500,
    [1], [1, 2], [0, 1], [[1, 2], [1, 2], 1], [None], [True], ["1"], [{}], [HUNDRED, -HUNDRED],
    (), (1,), (1, 2, 3), (None, None), ("1", "2"), ([1], [2]), ((1, 1), (1, 1)), (1, 2, 3, 4), ({}, {}),
    {}, {1: 2}, {0: 1, 1: 2}, {"place": (0, 1)}, {(0, 1): (1, 1)},
    nested(list, 20), nested(tuple, 20), nested_dict(20),
]

WHOLE_NUMBERS = [0, 1, -1, 2, 12, 1000, HUNDRED, -HUNDRED]


def pair(number):
    """The tuple that a Fraction of Python's own amounts to."""
    return (number.numerator, number.denominator)


def free(told):
    return Fraction(*told)


def body(place, speed=0, weight=1):
    return (pair(Fraction(place)), pair(Fraction(speed)), weight)


def row_of(count):
    return [body(place) for place in range(count)]


def world_of(*rows):
    """The world of bodies told as (place, speed) or (place, speed, weight)."""
    return [body(*row) for row in rows]


def fraction_by_chance(chance, most, bottom=6):
    return Fraction(chance.randint(-most, most), chance.randint(1, bottom))


def world_by_chance(chance, count, most=20, bottom=6, weight=1000):
    places = set()
    while len(places) < count:
        places.add(fraction_by_chance(chance, most, bottom))
    speeds = [fraction_by_chance(chance, most, bottom) for _ in range(count)]
    return [body(place, speed, chance.randint(1, weight)) for place, speed in zip(sorted(places), speeds)]


def together(place, moment, speeds, weights=(1, 2, 3, 4, 5)):
    """Bodies that go straight to one place at one moment."""
    return [body(place - speed * moment, speed, weight) for speed, weight in zip(speeds, weights)]


def close_by_chance(chance, count):
    """Small whole numbers make several meetings at one moment, and crowds."""
    places = sorted(chance.sample(range(-7, 8), count))
    weight = chance.choice([1, 1, 3])
    return [body(place, chance.randint(-1, 1), chance.randint(1, weight)) for place in places]


def worlds_by_chance(seed, rounds):
    chance = random.Random(seed)
    for _ in range(rounds):
        for count in range(1, 13):
            yield close_by_chance(chance, count)
            yield world_by_chance(chance, count)


# A light one between two heavy ones that come: there are many more than forty moments.
LONG_RUN = world_of((0, 1, 1000), (1, 0, 1), (4, -1, 1000))
THREE = world_of((0, 1), (1, 0), (3, -1))
THREE_MET = [((1, 1), (1, 1), 0), ((3, 2), (3, 2), 1), ((2, 1), (1, 1), 0)]


BELOW_NOUGHT = [(-1, 1), (-1, 2), (-7, 3), (-1, LONGER), (-LONGER, 1), (-HUNDRED, 2)]


def alike(world, weight=1):
    return [(place, speed, weight) for place, speed, old in world]


def kinds(thing):
    """The thing with its kinds written beside, so that True and 1 are not taken for one."""
    if isinstance(thing, (list, tuple)):
        return (type(thing).__name__, [kinds(part) for part in thing])
    if isinstance(thing, dict):
        return ("dict", [(kinds(key), kinds(thing[key])) for key in thing])
    return (type(thing).__name__, thing)


def unchanged(case, deed, *handed):
    """Does the deed twice; fails if it changes what is handed in, or tells another thing the second time."""
    before = deepcopy(handed)
    first = outcome(deed, handed)
    case.assertEqual(kinds(handed), kinds(before))
    case.assertEqual(kinds(outcome(deed, handed)), kinds(first))
    case.assertEqual(kinds(outcome(deed, before)), kinds(first))


def outcome(deed, handed):
    try:
        return ("told", deed(*handed))
    except ValueError as error:
        # What an error is made of counts, its own words don't.
        return ("refused", type(error).__name__, [part for part in error.args if not isinstance(part, str)])


def refused_crowd(case, crowd, deed, *handed):
    with case.assertRaises(Crowd) as taken:
        deed(*handed)
    error = taken.exception
    case.assertEqual(kinds((error.moment, error.place, error.numbers)), kinds(crowd))


def refused_at(case, number, deed, *handed):
    with case.assertRaises(NoWorld) as taken:
        deed(*handed)
    case.assertEqual(kinds(taken.exception.at), kinds(number))
