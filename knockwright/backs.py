"""The bodies of a world at any moment, ahead and back."""

from knockwright.goings import ALL, Course, refuse_below_nought
from knockwright.knocks import turned_about


def at(world, moment):
    refuse_below_nought(moment)
    course = Course(world, ALL)
    while course.comes_up_to(moment):
        course.refuse_crowd()
        course.go_on()
    return course.bodies_at(moment)


def turned(world):
    return [(body[0], turned_about(body[1]), body[2]) for body in world]


def back(world, moment):
    return turned(at(turned(world), moment))
