"""The refusals of Knockwright, each class straight under KnockError."""


class KnockError(ValueError):
    pass


class NoNumber(KnockError):
    pass


class NoBody(KnockError):
    pass


class NoMoment(KnockError):
    pass


class NoShare(KnockError):
    pass


class TooMany(KnockError):
    pass


class NoRow(KnockError):
    pass


class NoRun(KnockError):
    pass


class NoBox(KnockError):
    pass


# The four below hand the base what they are made of, and no words about it:
# a thing of whatever kind and size must be kept, and not each can be put into words.


class NoWorld(KnockError):
    def __init__(self, at):
        KnockError.__init__(self, at)
        self.at = at


class NoText(KnockError):
    def __init__(self, line):
        KnockError.__init__(self, line)
        self.line = line


class Overlap(KnockError):
    def __init__(self, one, other):
        KnockError.__init__(self, one, other)
        self.one = one
        self.other = other


class Crowd(KnockError):
    def __init__(self, moment, place, numbers):
        KnockError.__init__(self, moment, place, numbers)
        self.moment = moment
        self.place = place
        self.numbers = numbers
