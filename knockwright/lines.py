"""Runs on a line: from a world on, told at once or step by step."""

from knockwright.goings import ALL, Course, refuse_number_of_moments


class Line:
    def __init__(self, world):
        self.course = Course(world, ALL)
        self.done = []

    def time(self):
        return self.course.now

    def bodies(self):
        return self.course.bodies_at(self.course.now)

    def met(self):
        return list(self.done)

    def next_meetings(self):
        self.course.refuse_crowd()
        return self.course.meetings()

    def step(self):
        meetings = self.next_meetings()
        if len(meetings) > 0:
            self.course.go_on()
            self.done.extend(meetings)
        return meetings


def end_word(course, most):
    if course.coming is None:
        return "still"
    # The moment is beyond the told number, whether it has a crowd or not.
    if course.gone_through == most:
        return "more"
    if course.is_crowded():
        return "crowd"
    return None


# Whoever has a course of another kind, with the same values and methods, has its run told here, too.


def run_along(course, most):
    run = []
    word = end_word(course, most)
    while word is None:
        run.extend(course.meetings())
        course.go_on()
        word = end_word(course, most)
    return (word, run, course.bodies_at(course.now), course.now)


def run_of(world, most):
    refuse_number_of_moments(most)
    return run_along(Course(world, ALL), most)
