"""The lower hull of the points that weights and straight goings make, told without any meeting."""

from knockwright.goings import NOUGHT, place_at, refuse_below_nought
from knockwright.ratios import minus, plus, times, under


def points_of(world, moment):
    points = [(0, NOUGHT)]
    for body in world:
        last = points[-1]
        gain = times((body[2], 1), place_at(body, moment))
        points.append((last[0] + body[2], plus(last[1], gain)))
    return points


def is_below(point, left, right):
    # Both are made so many times greater as the two points are apart, so that nothing is divided.
    height = times((right[0] - left[0], 1), minus(point[1], left[1]))
    straight = times((point[0] - left[0], 1), minus(right[1], left[1]))
    return under(height, straight)


def hull_of(world, moment):
    refuse_below_nought(moment)
    corners = []
    for point in points_of(world, moment):
        while len(corners) > 1 and not is_below(corners[-1], corners[-2], point):
            corners.pop()
        corners.append(point)
    return corners
