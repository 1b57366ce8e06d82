"""Papers: lists of meetings that are said to be a world's run up to a moment, and whether they are."""

from knockwright.errors import NoRun
from knockwright.goings import ALL, Course, refuse_below_nought
from knockwright.ratios import is_fraction, is_whole


def has_form(thing):
    if not isinstance(thing, tuple) or len(thing) != 3:
        return False
    return is_fraction(thing[0]) and is_fraction(thing[1]) and is_whole(thing[2])


def wrong_word(run, count, meeting):
    if count >= len(run):
        return "fewer"
    thing = run[count]
    if not has_form(thing):
        return "form"
    if thing[0] != meeting[0]:
        return "moment"
    if thing[1] != meeting[1]:
        return "place"
    if thing[2] != meeting[2]:
        return "number"
    return None


def look_along(course, run, moment):
    count = 0
    while course.comes_up_to(moment):
        if course.is_crowded():
            return ("crowd", count)
        for meeting in course.meetings():
            word = wrong_word(run, count, meeting)
            if word is not None:
                return (word, count)
            count += 1
        course.go_on()
    if count < len(run):
        return ("more", count)
    return None


def refuse_paper(run, moment):
    refuse_below_nought(moment)
    if not isinstance(run, list):
        raise NoRun("a paper is a list of meetings")


def first_wrong(world, run, moment):
    refuse_paper(run, moment)
    return look_along(Course(world, ALL), run, moment)


def is_run(world, run, moment):
    return first_wrong(world, run, moment) is None


def stands(world, run, moment):
    refuse_paper(run, moment)
    course = Course(world, ALL)
    if look_along(course, run, moment) is not None:
        raise NoRun("nothing stands by a paper that isn't right")
    return course.bodies_at(moment)
