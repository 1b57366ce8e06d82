"""How often a wall, a light body at rest and a heavy one that comes meet, told by whole numbers alone."""

from knockwright.errors import NoNumber
from knockwright.ratios import is_whole

GREATEST = 100000000
MOST_TIMES = 10000


def refuse_weights(light, heavy):
    if not is_whole(light) or not is_whole(heavy):
        raise NoNumber("weights are whole numbers")
    if not 1 <= light <= GREATEST or not 1 <= heavy <= GREATEST:
        raise NoNumber("weights are from 1 to 100000000")
    if heavy > MOST_TIMES * light:
        raise NoNumber("the heavy one weighs at most 10000 times as much as the light one")


def turning(light, heavy):
    refuse_weights(light, heavy)
    pairs = []
    x = 1
    y = 1
    while y > 0:
        pairs.append((x, y))
        # With as many pairs as are there by now, the last one stands at an odd or an even place.
        after = (heavy * x - light * y, x + y) if len(pairs) % 2 == 1 else (x - light * y, x + heavy * y)
        x = after[0]
        y = after[1]
    pairs.append((x, y))
    return pairs


def count_of(light, heavy):
    return len(turning(light, heavy)) - 1
