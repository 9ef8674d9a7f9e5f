"""Wrong arguments of the calls on games, needs and parts: one, two, and passed in any order."""

import unittest

from guardkeeps.errors import BadKind, BadPaper, BadWish, OutOfPlace
from guardkeeps.games import answers, can_be_kept, check_kept, is_position, kept_paper, led
from guardkeeps.needs import least_ahead, least_hold, need
from guardkeeps.parts import are_alike, is_part, kept_part, parting
from refusing import Refusing, out_of_place
from things import (
    ALL_GOOD, DOOR, MANY_FIGURES, Unlike, no_integers, no_numbers, no_tuples, wrong_kinds,
    wrong_positions, wrong_wishes)

KIND = (1, 1, ())
START = ("even", 0)
PAPER = ("kept", (
    (("behind", 0, (0,)), ((), (0, 1))),
    (START, ((), (1,))),
    (("off", 0), ((), ())),
))

# By argument: a right thing, and pairs of a wrong one and the error, with its part.
RIGHT = {"wish": DOOR, "other": DOOR, "kind": KIND, "position": START, "deed": 1, "shown": (1,),
         "value": START, "paper": PAPER, "hold": 1, "ahead": 1, "loose": ()}


def wrong_lots(lots):
    """What is no ascending tuple of deeds, if two of them are told to be none."""
    inner = [(wrong,) for wrong in no_numbers(2)] + [(0, wrong) for wrong in no_numbers(2)]
    return [*no_tuples(), [0], [], (1, 0), (0, 0), (1, 1), (0, 1, 1), (0, 1, 2), *inner, *lots]


WRONG = {
    "wish": [(thing, BadWish, part) for thing, part in wrong_wishes()],
    "other": [*((thing, BadWish, part) for thing, part in wrong_wishes()),
              *out_of_place([ALL_GOOD, (3, ((0,) * 3,), (0,)), (4, ((0,) * 4,), (0,))])],
    "kind": [(thing, BadKind, part) for thing, part in wrong_kinds()],
    "position": out_of_place(wrong_positions()),
    "deed": out_of_place([*no_numbers(2), *no_tuples()[:1], (1,), START]),
    "shown": out_of_place([*no_tuples(), (0,), (), (1, 1), (True,), (1.0,), (Unlike(),), [1]]),
    "value": [],
    "paper": [(thing, BadPaper, "form") for thing in (*no_tuples(), (), ("kept",), ("held", ()))]
    + [(("kept", thing), BadPaper, "kept") for thing in (*no_tuples(), (), PAPER[1][1:], START)]
    + [(("lost", thing), BadPaper, "lost") for thing in (*no_tuples(), (), PAPER[1], START)],
    "hold": out_of_place([*no_integers(), -1, -2, 4, 5, MANY_FIGURES, -MANY_FIGURES, (0,)]),
    "ahead": out_of_place([*no_integers(), -1, -2, 3, 4, MANY_FIGURES, -MANY_FIGURES, (0,)]),
    "loose": out_of_place(wrong_lots([(-1,), (-1, 0), ((),), ((0,),)])),
}

CALLS = {
    is_position: ("wish", "kind", "value"),
    answers: ("wish", "kind", "position", "deed"),
    led: ("wish", "kind", "position", "deed", "shown"),
    can_be_kept: ("wish", "kind"),
    kept_paper: ("wish", "kind"),
    check_kept: ("wish", "kind", "paper"),
    least_hold: ("wish", "ahead", "loose"),
    least_ahead: ("wish", "hold", "loose"),
    need: ("wish",),
    is_part: ("wish", "other"),
    are_alike: ("wish", "other"),
    parting: ("wish", "other"),
    kept_part: ("wish", "loose"),
}


class Refusals(Refusing, unittest.TestCase):
    right, wrong, calls = RIGHT, WRONG, CALLS

    def test_all_wrong_the_wish_is_refused(self):
        for call, names in CALLS.items():
            for thing in (None, True, 0, "x", [], Unlike(), MANY_FIGURES):
                self.refused(call, dict.fromkeys(names, thing), BadWish, "form")

    def test_a_value_of_any_kind_is_wrong_in_no_way(self):
        for thing in (*wrong_positions(), *no_integers()):
            self.assertIs(is_position(DOOR, KIND, thing), False)

    def test_deeds_of_this_wish_alone(self):
        wide = (4, ((0, 0, 0, 0),), (0,))
        self.assertEqual(answers(wide, (0, 0, (3,)), START, 3), ((3,),))
        self.assertEqual(least_hold(wide, 0, (0, 1, 2, 3)), 0)
        self.assertEqual(least_ahead(wide, 0, (2, 3)), 0)
        self.assertEqual(kept_part(wide, (1, 3)), wide)
        for deed in (2, 3):
            with self.assertRaises(OutOfPlace):
                answers(DOOR, KIND, START, deed)
            with self.assertRaises(OutOfPlace):
                led(DOOR, KIND, START, deed, (deed,))
            for call in (least_hold, least_ahead):
                with self.assertRaises(OutOfPlace):
                    call(DOOR, 0, (deed,))
            with self.assertRaises(OutOfPlace):
                kept_part(DOOR, (0, deed))

    def test_the_other_wish_is_wrong_ahead_of_its_deeds(self):
        for other, part in (((3, ((0, 0, 0),), (1,)), "good"), ((1, ((0, 0),), (0,)), "steps"),
                            ((5, ((0,) * 5,), (0,)), "deeds"), ((1, ((0,),)), "form")):
            for call in (is_part, are_alike, parting):
                self.refused(call, {"wish": DOOR, "other": other}, BadWish, part)


if __name__ == "__main__":
    unittest.main()
