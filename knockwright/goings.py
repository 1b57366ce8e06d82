"""How bodies go and come together: straight on, until at some moment neighbours meet."""

from knockwright.errors import Crowd, NoMoment, TooMany
from knockwright.ratios import fraction, is_whole, minus, over, plus, times, under

NOUGHT = (0, 1)
# The share of what two bring to a meeting that they part with, where nothing is told of it.
ALL = (1, 1)
MOST_MOMENTS = 40


def refuse_below_nought(moment):
    if under(moment, NOUGHT):
        raise NoMoment("a moment is from 0 on")


def refuse_number_of_moments(most):
    if not is_whole(most) or not 0 <= most <= MOST_MOMENTS:
        raise TooMany("a run is told for a whole number of moments from 0 to 40")


def place_at(body, moment):
    return plus(body[0], times(body[1], moment))


def led(body, moment):
    return (place_at(body, moment), body[1], body[2])


def joint_moment(one, other):
    gain = minus(one[1], other[1])
    # The one is to the left: if it isn't faster it never comes to where the other is.
    if gain[0] <= 0:
        return None
    return over(minus(other[0], one[0]), gain)


def mixed(own, far, weight, mass, share):
    both = (weight + mass) * share[1]
    kept = times(own, fraction(weight * share[1] - mass * share[0], both))
    taken = times(far, fraction(mass * (share[1] + share[0]), both))
    return plus(kept, taken)


def behind(one, other, share):
    # The two straight goings cross where they meet, and what is kept and taken makes up 1: so the rule of the speeds
    # holds of the places at the moment 0, too, and no figures of the moment come into them.
    place = mixed(one[0], other[0], one[2], other[2], share)
    speed = mixed(one[1], other[1], one[2], other[2], share)
    return (place, speed, one[2])


def go_alike(one, other):
    return one[0] == other[0] and one[1] == other[1]


def least(moments):
    found = None
    for moment in moments:
        if found is None or under(moment, found):
            found = moment
    return found


# A course is led from one moment at which some meet to the next. Of each body it keeps the straight going: a body,
# too, but at the place where it would have been at the moment 0, had it always gone as it does now. So a going stays
# as it is until its body meets another one, and its numbers don't get longer with each moment.


class Course:
    def __init__(self, world, share):
        self.goings = list(world)
        self.share = share
        self.now = NOUGHT
        self.gone_through = 0
        # For each left one of two neighbours when they meet: kept, since most of these outlast a meeting.
        self.joints = [joint_moment(world[left], world[left + 1]) for left in range(len(world) - 1)]
        self.look_ahead()

    def look_ahead(self):
        self.coming = least([joint for joint in self.joints if joint is not None])

    def bodies_at(self, moment):
        return [led(going, moment) for going in self.goings]

    def comes_up_to(self, moment):
        if self.coming is None or under(moment, self.coming):
            return False
        # Whether it has a crowd isn't asked: a crowd that is the forty-first moment is refused so, too.
        if self.gone_through == MOST_MOMENTS:
            raise TooMany("a run is gone through for at most forty moments")
        return True

    def lefts(self):
        if self.coming is None:
            return []
        return [left for left in range(len(self.joints)) if self.joints[left] == self.coming]

    def meetings(self):
        return [(self.coming, place_at(self.goings[left], self.coming), left) for left in self.lefts()]

    def are_together(self, left):
        # Two whose share is 0 go on together once they met, and have no next meeting.
        return self.joints[left] == self.coming or go_alike(self.goings[left], self.goings[left + 1])

    def gathered(self, left):
        first = left
        while first > 0 and self.are_together(first - 1):
            first -= 1
        last = left + 1
        while last < len(self.joints) and self.are_together(last):
            last += 1
        return tuple(range(first, last + 1))

    def crowd(self):
        for left in self.lefts():
            numbers = self.gathered(left)
            if len(numbers) > 2:
                return numbers
        return None

    def is_crowded(self):
        return self.crowd() is not None

    def refuse_crowd(self):
        numbers = self.crowd()
        if numbers is not None:
            raise Crowd(self.coming, place_at(self.goings[numbers[0]], self.coming), numbers)

    def go_on(self):
        lefts = self.lefts()
        self.now = self.coming
        self.gone_through += 1
        for left in lefts:
            self.part(left)
        self.look_ahead()

    def part(self, left):
        one = self.goings[left]
        other = self.goings[left + 1]
        self.goings[left] = behind(one, other, self.share)
        self.goings[left + 1] = behind(other, one, self.share)
        for near in range(max(left - 1, 0), min(left + 2, len(self.joints))):
            self.joints[near] = joint_moment(self.goings[near], self.goings[near + 1])
