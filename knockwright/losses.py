"""Meetings at which a share is lost: of the speed with which two part, seen from one another."""

from knockwright.errors import NoShare
from knockwright.goings import ALL, NOUGHT, Course, refuse_number_of_moments
from knockwright.knocks import speeds_with
from knockwright.lines import run_along
from knockwright.ratios import fraction, minus, times, under


def refuse_share(share):
    if under(share, NOUGHT) or under(ALL, share):
        raise NoShare("a share is from 0 to 1")


def speeds_lost(one, other, share):
    refuse_share(share)
    return speeds_with(one, other, share)


def lost_in(one, other, share):
    refuse_share(share)
    gain = minus(one[1], other[1])
    lost = minus(ALL, times(share, share))
    weight = fraction(one[2] * other[2], one[2] + other[2])
    return times(weight, times(lost, times(gain, gain)))


def run_lost(world, share, most):
    refuse_share(share)
    refuse_number_of_moments(most)
    return run_along(Course(world, share), most)
