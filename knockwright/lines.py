"""Runs on a line: from a world on, told at once or step by step."""

from knockwright.errors import TooMany
from knockwright.goings import MOST_MOMENTS, Course
from knockwright.ratios import is_whole


class Line:
    def __init__(self, world):
        self.course = Course(world)
        self.done = []

    def time(self):
        return self.course.now

    def bodies(self):
        return self.course.bodies_at(self.course.now)

    def met(self):
        return list(self.done)

    def next_meetings(self):
        self.course.refuse_crowd()
        return self.course.meetings()

    def step(self):
        meetings = self.next_meetings()
        if len(meetings) > 0:
            self.course.go_on()
            self.done.extend(meetings)
        return meetings


def end_word(course, most):
    if course.coming is None:
        return "still"
    # The moment is beyond the told number, whether it has a crowd or not.
    if course.gone_through == most:
        return "more"
    if course.crowd() is not None:
        return "crowd"
    return None


def run_of(world, most):
    if not is_whole(most) or not 0 <= most <= MOST_MOMENTS:
        raise TooMany("a run is told for a whole number of moments from 0 to 40")
    line = Line(world)
    word = end_word(line.course, most)
    while word is None:
        line.step()
        word = end_word(line.course, most)
    return (word, line.met(), line.bodies(), line.time())
