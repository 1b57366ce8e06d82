"""Point 5, and knockwright/errors.py of the interface."""

import copy
import pickle
import unittest

from knockwright.errors import (
    Crowd, KnockError, NoBody, NoBox, NoMoment, NoNumber, NoRow, NoRun, NoShare, NoText, NoWorld, Overlap, TooMany,
)
from tests.samples import HUNDRED, ODD_THINGS, WHOLE_NUMBERS

MADE_OF_TEXT = [NoNumber, NoBody, NoMoment, NoShare, TooMany, NoRow, NoRun, NoBox]
FIELDS = [
    (NoWorld, ["at"]),
    (NoText, ["line"]),
    (Overlap, ["one", "other"]),
    (Crowd, ["moment", "place", "numbers"]),
]
TWELVE = MADE_OF_TEXT + [kind for kind, names in FIELDS]


class Standing(unittest.TestCase):
    def test_there_are_twelve(self):
        self.assertEqual(len(set(TWELVE)), 12)

    def test_knock_error_stands_straight_under_value_error(self):
        self.assertEqual(KnockError.__bases__, (ValueError,))

    def test_each_stands_straight_under_knock_error(self):
        for kind in TWELVE:
            with self.subTest(kind=kind.__name__):
                self.assertEqual(kind.__bases__, (KnockError,))
                self.assertTrue(issubclass(kind, ValueError))

    def test_none_stands_under_another_one(self):
        for kind in TWELVE:
            for other in TWELVE:
                if kind is not other:
                    self.assertFalse(issubclass(kind, other), (kind, other))

    def test_each_bears_its_name(self):
        names = "NoNumber NoBody NoMoment NoShare TooMany NoRow NoRun NoBox NoWorld NoText Overlap Crowd"
        self.assertEqual([kind.__name__ for kind in TWELVE], names.split())

    def test_each_is_taken_by_its_own_name_and_the_two_above(self):
        for kind, names in [(kind, ["text"]) for kind in MADE_OF_TEXT] + FIELDS:
            for taken in (kind, KnockError, ValueError):
                with self.subTest(kind=kind.__name__, taken=taken.__name__), self.assertRaises(taken):
                    raise kind(*names)


class Keeping(unittest.TestCase):
    def test_those_made_of_a_text_keep_it(self):
        for kind in MADE_OF_TEXT:
            for text in ("", "no such thing", "two\nlines"):
                self.assertEqual(str(kind(text)), text)
                self.assertEqual(kind(text).args, (text,))

    def test_those_made_of_a_text_refuse_nothing(self):
        for kind in MADE_OF_TEXT:
            for thing in ODD_THINGS + WHOLE_NUMBERS:
                self.assertIs(kind(thing).args[0], thing)

    def test_fields_are_told_by_their_names(self):
        self.assertEqual(NoWorld(3).at, 3)
        self.assertEqual(NoText(7).line, 7)
        overlap = Overlap(1, 4)
        self.assertEqual((overlap.one, overlap.other), (1, 4))
        crowd = Crowd((3, 2), (-1, 5), (0, 1, 2))
        self.assertEqual((crowd.moment, crowd.place, crowd.numbers), ((3, 2), (-1, 5), (0, 1, 2)))
        self.assertIsNone(Crowd((0, 1), None, (2, 3)).place)

    def test_fields_keep_whatever_they_are_made_of(self):
        things = ODD_THINGS + WHOLE_NUMBERS + [10 ** 5000, (10 ** 5000, 1), "x" * 5000]
        for kind, names in FIELDS:
            for start in range(len(things)):
                handed = [things[(start + step) % len(things)] for step in range(len(names))]
                error = kind(*handed)
                for name, thing in zip(names, handed):
                    self.assertIs(getattr(error, name), thing)

    def test_two_errors_of_a_class_have_nothing_in_common(self):
        for kind, names in FIELDS:
            first = kind(*names)
            kind(*[HUNDRED] * len(names))
            self.assertEqual([getattr(first, name) for name in names], names)

    def test_a_copy_keeps_the_same(self):
        for kind, names in FIELDS:
            error = kind(*range(len(names)))
            for twin in (copy.copy(error), copy.deepcopy(error), pickle.loads(pickle.dumps(error))):
                self.assertIs(type(twin), kind)
                self.assertEqual([getattr(twin, name) for name in names], list(range(len(names))))


if __name__ == "__main__":
    unittest.main()
