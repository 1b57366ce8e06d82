"""The rows that a desk is told: a word, and behind it what this word needs."""

from knockwright.errors import NoRow
from knockwright.goings import NOUGHT
from knockwright.ratios import is_fraction, under
from knockwright.texts import read_fraction, read_whole

# Behind a paper's moment stand as many meetings as there may be, so it has no form here.
FORMS = {
    "body": ("fraction", "fraction", "number"),
    "clear": (),
    "world": (),
    "meet": ("number", "number"),
    "run": ("number",),
    "at": ("fraction",),
    "back": ("fraction",),
    "likes": ("fraction",),
    "round": ("length",),
    "wall": ("number",),
    "count": ("number", "number"),
    "stuck": (),
    "clumps": ("fraction",),
}
MEETING = ("fraction", "fraction", "number")
TOO_GREAT = 10000


def is_short(number):
    return -TOO_GREAT < number < TOO_GREAT


def is_fitting(value, kind):
    if kind == "number":
        return value is not None and 0 <= value < TOO_GREAT
    if not is_fraction(value) or not is_short(value[0]) or not is_short(value[1]):
        return False
    return kind == "fraction" or under(NOUGHT, value)


def value_of(word, kind):
    value = read_whole(word) if kind == "number" else read_fraction(word)
    if not is_fitting(value, kind):
        raise NoRow("this is no number that may stand here")
    return value


def values_of(words, form):
    if len(words) != len(form):
        raise NoRow("there are other words than this row has")
    return tuple([value_of(words[k], form[k]) for k in range(len(form))])


def paper_values(text):
    parts = text.partition(" ")
    moment = value_of(parts[0], "fraction")
    if parts[1] == "":
        return (moment, [])
    return (moment, [values_of(meeting.split(" "), MEETING) for meeting in parts[2].split("; ")])


def read_row(row):
    if not isinstance(row, str):
        raise NoRow("a row is a text")
    parts = row.partition(" ")
    word = parts[0]
    if word == "paper":
        return (word, paper_values(parts[2]))
    if word not in FORMS:
        raise NoRow("no row begins so")
    words = row.split(" ")
    return (word, values_of(words[1:], FORMS[word]))
