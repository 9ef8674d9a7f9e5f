"""The errors: where they stand, and what they keep."""

import copy
import pickle
import unittest

from guardkeeps.errors import (
    BadGuard, BadKind, BadPaper, BadText, BadWish, Nothing, OutOfPlace, TooMany)
from things import MANY_FIGURES, no_integers, no_tuples

PLACES = {
    BadWish: ValueError, BadKind: ValueError, BadGuard: ValueError, BadPaper: ValueError,
    BadText: ValueError, OutOfPlace: ValueError, Nothing: LookupError, TooMany: OverflowError,
}
FIELDS = {
    BadWish: "part", BadKind: "part", BadGuard: "part", BadPaper: "part", BadText: "line",
    TooMany: "most",
}
TEXTS = (OutOfPlace, Nothing)


def any_things():
    return ["form", "deeds", "", 0, 1, 8, -3, MANY_FIGURES, *no_integers(), *no_tuples()]


class Places(unittest.TestCase):
    def test_straight_under_the_told_class(self):
        for error, place in PLACES.items():
            self.assertEqual(error.__bases__, (place,), error)

    def test_under_no_other_one(self):
        for error in PLACES:
            for other in PLACES:
                self.assertEqual(issubclass(error, other), error is other, (error, other))

    def test_names_and_file(self):
        names = ["BadWish", "BadKind", "BadGuard", "BadPaper", "BadText", "OutOfPlace", "Nothing",
                 "TooMany"]
        self.assertEqual([error.__name__ for error in PLACES], names)
        for error in PLACES:
            self.assertEqual(error.__module__, "guardkeeps.errors")


class Fields(unittest.TestCase):
    def test_by_position(self):
        for error, field in FIELDS.items():
            for thing in any_things():
                self.assertIs(getattr(error(thing), field), thing)

    def test_by_name(self):
        for error, field in FIELDS.items():
            for thing in any_things():
                self.assertIs(getattr(error(**{field: thing}), field), thing)

    def test_texts_by_position_and_by_name(self):
        for error in TEXTS:
            for thing in any_things():
                self.assertIsInstance(error(thing), PLACES[error])
                self.assertIsInstance(error(text=thing), PLACES[error])

    def test_one_argument_is_wanted(self):
        for error in PLACES:
            with self.assertRaises(TypeError):
                error()
            with self.assertRaises(TypeError):
                error("form", "deeds")

    def test_no_other_name(self):
        for error in PLACES:
            wrong = "part" if FIELDS.get(error, "text") != "part" else "line"
            with self.assertRaises(TypeError):
                error(**{wrong: "form"})

    def test_objects_do_not_share_their_fields(self):
        for error, field in FIELDS.items():
            one, two = error("one"), error("two")
            self.assertEqual((getattr(one, field), getattr(two, field)), ("one", "two"))

    def test_what_is_kept_is_not_changed(self):
        for error, field in FIELDS.items():
            thing = [1, [2]]
            self.assertIs(getattr(error(thing), field), thing)
            self.assertEqual(thing, [1, [2]])

    def test_the_text_is_the_message(self):
        for error in TEXTS:
            self.assertEqual(str(error("no such run")), "no such run")
            self.assertEqual(str(error(text="no such run")), "no such run")

    def test_copies_keep_the_field(self):
        for error, field in FIELDS.items():
            for made in (error("good"), error(**{field: "good"})):
                self.assertEqual(getattr(copy.copy(made), field), "good")
                self.assertEqual(getattr(pickle.loads(pickle.dumps(made)), field), "good")


class Raised(unittest.TestCase):
    def caught(self, made, place):
        try:
            raise made
        except place as error:
            return error

    def test_caught_it_is_the_same_object(self):
        for error, place in PLACES.items():
            made = error("steps")
            self.assertIs(self.caught(made, error), made)
            self.assertIs(self.caught(made, place), made)

    def test_caught_it_has_the_same_field(self):
        for error, field in FIELDS.items():
            for thing in any_things():
                caught = self.caught(error(thing), error)
                self.assertIs(getattr(caught, field), thing)

    def test_not_caught_as_another_one(self):
        for error in PLACES:
            for other in PLACES:
                if other is not error:
                    with self.assertRaises(error):
                        self.caught(error(0), other)


if __name__ == "__main__":
    unittest.main()
