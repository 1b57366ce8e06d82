"""A desk that keeps bodies, is told rows, and answers with texts."""

from knockwright.backs import at, back
from knockwright.clumps import clumps_at, stuck_run
from knockwright.counts import count_of
from knockwright.errors import NoBody, NoWorld, TooMany
from knockwright.knocks import meet_of
from knockwright.likes import passed
from knockwright.lines import run_of
from knockwright.papers import first_wrong
from knockwright.ratios import is_whole, shown
from knockwright.rooms import round_of
from knockwright.rows import read_row
from knockwright.texts import is_long
from knockwright.walls import walled_run
from knockwright.worlds import is_body, numbered

MOST_KEPT = 6


def with_body(bodies, body):
    if not is_body(body):
        raise NoBody("these are no body")
    if len(bodies) == MOST_KEPT:
        raise TooMany("a desk keeps at most six bodies")
    return numbered(bodies + [body])


def number_word(number):
    one = (number, 1) if is_whole(number) else number
    if is_long(one[0]) or is_long(one[1]):
        raise TooMany("a number of more than a hundred figures isn't told")
    return shown(one)


def words_of(thing):
    return " ".join([number_word(number) for number in thing])


def list_words(things):
    if len(things) == 0:
        return "none"
    return "; ".join([words_of(thing) for thing in things])


def run_words(told):
    return told[0] + " " + list_words(told[1])


def meet_words(bodies, one, other):
    if one >= len(bodies) or other >= len(bodies):
        raise NoBody("there is no body with this number")
    met = meet_of(bodies[one], bodies[other])
    return "never" if met is None else words_of(met)


def paper_words(wrong):
    return "right" if wrong is None else wrong[0] + " " + number_word(wrong[1])


def round_words(moment):
    return "none" if moment is None else number_word(moment)


def answer_of(bodies, word, values):
    if word == "meet":
        return meet_words(bodies, values[0], values[1])
    if word == "run":
        return run_words(run_of(bodies, values[0]))
    if word == "wall":
        return run_words(walled_run(bodies, values[0]))
    if word == "at":
        return list_words(at(bodies, values[0]))
    if word == "back":
        return list_words(back(bodies, values[0]))
    if word == "paper":
        return paper_words(first_wrong(bodies, values[1], values[0]))
    if word == "likes":
        return list_words(passed(bodies, values[0]))
    if word == "round":
        return round_words(round_of(bodies, values[0]))
    if word == "stuck":
        return list_words(stuck_run(bodies))
    return list_words(clumps_at(bodies, values[0]))


class Desk:
    def __init__(self):
        self.kept = []

    def say(self, row):
        told = read_row(row)
        word = told[0]
        values = told[1]
        if word == "body":
            self.kept = with_body(self.kept, values)
            return number_word(len(self.kept))
        if word == "clear":
            self.kept = []
            return "0"
        if word == "world":
            return list_words(self.kept)
        if word == "count":
            return number_word(count_of(values[0], values[1]))
        if len(self.kept) == 0:
            raise NoWorld(0)
        return answer_of(self.kept, word, values)
