"""Bodies that stick: where some meet they go on as one clump."""

from knockwright.goings import joint_moment, least, place_at, refuse_below_nought
from knockwright.knocks import push, total
from knockwright.ratios import over, times, under


def going_of(clump):
    return clump[2:]


def stuck(parts):
    weight = sum([part[4] for part in parts])
    place = total([times((part[4], 1), part[2]) for part in parts])
    speed = push([going_of(part) for part in parts])
    return (parts[0][0], parts[-1][1], over(place, (weight, 1)), over(speed, (weight, 1)), weight)


# Of each clump the straight going is kept, as a tuple (first, last, place, speed, weight): the place is where it would
# have been at the moment 0. That is where its bodies would have had their middle, whenever they came together: so
# which bodies are in it tells all of a clump.


class Sticking:
    def __init__(self, world):
        self.clumps = [(number, number) + world[number] for number in range(len(world))]
        self.known = {}
        self.look_ahead()

    def joint_of(self, left):
        one = self.clumps[left]
        other = self.clumps[left + 1]
        bodies = (one[0], other[0], other[1])
        if bodies not in self.known:
            self.known[bodies] = joint_moment(going_of(one), going_of(other))
        return self.known[bodies]

    def look_ahead(self):
        self.joints = [self.joint_of(left) for left in range(len(self.clumps) - 1)]
        self.coming = least([joint for joint in self.joints if joint is not None])

    def comes_by(self, moment):
        return self.coming is not None and not under(moment, self.coming)

    def groups(self):
        groups = [[self.clumps[0]]]
        for left in range(len(self.joints)):
            if self.joints[left] == self.coming:
                groups[-1].append(self.clumps[left + 1])
            else:
                groups.append([self.clumps[left + 1]])
        return groups

    def stick(self):
        moment = self.coming
        made = []
        clumps = []
        for group in self.groups():
            if len(group) == 1:
                clumps.append(group[0])
            else:
                clump = stuck(group)
                clumps.append(clump)
                made.append((moment, place_at(going_of(clump), moment), clump[0], clump[1]))
        self.clumps = clumps
        self.look_ahead()
        return made


def stuck_run(world):
    sticking = Sticking(world)
    run = []
    while sticking.coming is not None:
        run.extend(sticking.stick())
    return run


def clump_at(clump, moment):
    return clump[:2] + (place_at(going_of(clump), moment),) + clump[3:]


def clumps_at(world, moment):
    refuse_below_nought(moment)
    sticking = Sticking(world)
    while sticking.comes_by(moment):
        sticking.stick()
    return [clump_at(clump, moment) for clump in sticking.clumps]
