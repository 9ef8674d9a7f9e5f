"""Wrong arguments of the calls on films, watches and texts."""

import unittest

from guardkeeps.errors import BadGuard, BadKind, BadText, BadWish, OutOfPlace
from guardkeeps.films import do_fit, first_unfit
from guardkeeps.texts import guard_text, read_guard, read_wish, wish_text
from guardkeeps.watches import Watch, under
from refusing import Refusing, out_of_place
from things import (
    DOOR, HOLDER, MANY_FIGURES, Unlike, film_of, no_integers, wrong_films, wrong_guards,
    wrong_kinds, wrong_wishes)

KIND = (1, 1, ())
FILMS = (film_of(HOLDER, (0, 1, 1)), film_of(HOLDER, (1, 0)))


def wrong_strings(wrong_texts):
    things = [thing for thing in (*no_integers(), 0, DOOR, HOLDER) if not isinstance(thing, str)]
    return [(thing, BadText, 0) for thing in things] + [
        (text, BadText, 1) for text in ("", "x", "0", "\n", *wrong_texts)]


WRONG_GUARDS = [(thing, BadGuard, part) for thing, part in wrong_guards()]

RIGHT = {"wish": DOOR, "kind": KIND, "guard": HOLDER, "deeds": 2, "films": FILMS,
         "watch": Watch(DOOR, KIND, HOLDER), "deed": len, "wish's": wish_text(DOOR),
         "guard's": guard_text(2, HOLDER)}

WRONG = {
    "wish": [(thing, BadWish, part) for thing, part in wrong_wishes()],
    "kind": [(thing, BadKind, part) for thing, part in wrong_kinds()],
    "guard": WRONG_GUARDS,
    "deeds": out_of_place([*no_integers(), 0, -1, 5, MANY_FIGURES, -MANY_FIGURES]),
    "films": out_of_place(wrong_films()),
    "watch": out_of_place([*no_integers(), 0, 1, DOOR, HOLDER, Watch]),
    "deed": out_of_place([None, True, 0, 1, "", "len", b"len", (), (len,), [], {}, 1.5]),
    "wish's": wrong_strings([guard_text(2, HOLDER), wish_text(DOOR) + "\n"]),
    "guard's": wrong_strings([wish_text(DOOR), guard_text(2, HOLDER) + "\n"]),
}

CALLS = {
    do_fit: ("wish", "kind", "films"),
    first_unfit: ("wish", "kind", "films"),
    Watch: ("wish", "kind", "guard"),
    under: ("watch", "deed"),
    wish_text: ("wish",),
    guard_text: ("deeds", "guard"),
    read_wish: ("string",),
    read_guard: ("deeds", "string"),
}

SORTS = {(read_wish, "string"): "wish's", (read_guard, "string"): "guard's"}


class WatchRefusals(Refusing, unittest.TestCase):
    right, wrong, calls, sorts = RIGHT, WRONG, CALLS, SORTS

    def test_all_wrong_the_first_one_is_refused(self):
        first = {"wish": (BadWish, "form"), "watch": (OutOfPlace, None),
                 "deeds": (OutOfPlace, None), "string": (BadText, 0)}
        for call, names in CALLS.items():
            for thing in (None, True, [], Unlike(), MANY_FIGURES, ()):
                self.refused(call, dict.fromkeys(names, thing), *first[names[0]])


if __name__ == "__main__":
    unittest.main()
