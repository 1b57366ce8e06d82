"""Runs beside a wall that stands at the place 0."""

from knockwright.errors import NoWorld
from knockwright.goings import NOUGHT
from knockwright.knocks import mirrored
from knockwright.lines import run_of
from knockwright.ratios import under


def walled_run(world, most):
    if not under(NOUGHT, world[0][0]):
        raise NoWorld(0)
    # A wall turns a body about as its own mirrored body does that comes to it from the left. So what goes on beside
    # a wall is the right half of what goes on where the mirrored world lies in the wall's place.
    count = len(world)
    told = run_of(mirrored(world) + world, most)
    run = [(met[0], met[1], met[2] - count) for met in told[1] if met[2] >= count - 1]
    return (told[0], run, told[2][count:], told[3])
