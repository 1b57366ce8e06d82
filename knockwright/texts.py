"""Worlds as texts: a line for each body, with its place, speed and weight."""

from knockwright.errors import NoText, TooMany
from knockwright.ratios import shown, under
from knockwright.worlds import MOST_BODIES, is_body

FIGURES = "0123456789"
MOST_FIGURES = 100


def is_long(number):
    return abs(number) >= 10 ** 50 * 10 ** 50


def has_long(body):
    return any([is_long(number) for number in body[0] + body[1]])


def show_body(body):
    return " ".join([shown(body[0]), shown(body[1]), str(body[2])])


def show_world(world):
    if any([has_long(body) for body in world]):
        raise TooMany("a number of more than a hundred figures isn't written")
    return "\n".join([show_body(body) for body in world])


# Each of these tells None of a word that isn't written so.


def read_whole(word):
    figures = word[1:] if word.startswith("-") else word
    if not 1 <= len(figures) <= MOST_FIGURES:
        return None
    # Python's own isdigit lets signs by that are no ASCII figures.
    if not all([sign in FIGURES for sign in figures]):
        return None
    number = int(word)
    return number if str(number) == word else None


def read_fraction(word):
    parts = word.split("/")
    top = read_whole(parts[0])
    if len(parts) == 1:
        return None if top is None else (top, 1)
    bottom = read_whole(parts[1])
    if len(parts) > 2 or bottom is None or bottom == 1:
        return None
    return (top, bottom)


def read_body(line):
    words = line.split(" ")
    if len(words) != 3:
        return None
    body = (read_fraction(words[0]), read_fraction(words[1]), read_whole(words[2]))
    return body if is_body(body) else None


def may_follow(body, world):
    if len(world) == MOST_BODIES:
        return False
    return len(world) == 0 or under(world[-1][0], body[0])


def read_world(text):
    if not isinstance(text, str):
        raise NoText(0)
    world = []
    for line in text.split("\n"):
        body = read_body(line)
        if body is None or not may_follow(body, world):
            raise NoText(len(world))
        world.append(body)
    return world
