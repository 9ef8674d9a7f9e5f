"""Wrong arguments of the calls on guards, judges and fellows."""

import unittest

from guardkeeps.errors import BadGuard, BadKind, BadPaper, BadWish, OutOfPlace
from guardkeeps.fellows import are_fellows, guard_of, joined, least, parting_run
from guardkeeps.games import kept_paper
from guardkeeps.guards import memory_of, need_guard, output
from guardkeeps.judges import (
    check_judge, failing, first_failing, held_and_early, judge_paper, keeps)
from refusing import Refusing, out_of_place
from things import (
    ALL_GOOD, CLOSED_TO_ALL, DOOR, HOLDER, MANY_FIGURES, Unlike, no_integers, no_numbers,
    no_tuples, wrong_guards, wrong_kinds, wrong_wishes)

KIND = (1, 1, ())
TABLE = judge_paper(DOOR, KIND, HOLDER)[1]
KEPT = kept_paper(DOOR, (1, 0, ()))

RIGHT = {"wish": DOOR, "kind": KIND, "guard": HOLDER, "run": (0, 1), "deeds": 2,
         "paper": ("keeps", TABLE), "kept": KEPT}

WRONG = {
    "wish": [(thing, BadWish, part) for thing, part in wrong_wishes()],
    "kind": [(thing, BadKind, part) for thing, part in wrong_kinds()],
    "guard": [*((thing, BadGuard, part) for thing, part in wrong_guards()),
              ((((0, ()),),), BadGuard, "form"), ((((0, ()),) * 3,), BadGuard, "form")],
    "run": out_of_place([*no_tuples(), [0], "01", (2,), (0, -1), (True,), (0, False), (0, 1.0),
                         (None,), (Unlike(),), ((0,),), (MANY_FIGURES,), (0,) * 401]),
    "deeds": out_of_place([*no_integers(), 0, -1, 5, 6, MANY_FIGURES, -MANY_FIGURES, (1,)]),
    "paper": [(thing, BadPaper, "form") for thing in (*no_tuples(), (), ("keeps",), KEPT)]
    + [(("keeps", thing), BadPaper, "keeps") for thing in (*no_tuples(), (), TABLE[1:], (0,))]
    + [(("fails", thing), BadPaper, "fails") for thing in (*no_tuples(), (), TABLE, (0,))],
    "kept": [(thing, BadPaper, "form") for thing in (*no_tuples(), (), ("kept",), ("held", ()))]
    + [(("kept", thing), BadPaper, "kept") for thing in (*no_tuples(), (), KEPT[1][1:])]
    + [(("lost", thing), BadPaper, "lost") for thing in (*no_tuples(), (), KEPT[1])],
}

CALLS = {
    need_guard: ("deeds", "thing"),
    output: ("deeds", "guard", "run"),
    memory_of: ("deeds", "guard", "run"),
    failing: ("wish", "kind", "guard", "run"),
    keeps: ("wish", "kind", "guard"),
    first_failing: ("wish", "kind", "guard"),
    judge_paper: ("wish", "kind", "guard"),
    check_judge: ("wish", "kind", "guard", "paper"),
    held_and_early: ("wish", "kind", "guard"),
    are_fellows: ("deeds", "guard", "other"),
    parting_run: ("deeds", "guard", "other"),
    least: ("deeds", "guard"),
    joined: ("deeds", "guard", "other"),
    guard_of: ("wish", "kind", "paper"),
}

SORTS = {(need_guard, "thing"): "guard", (are_fellows, "other"): "guard",
         (parting_run, "other"): "guard", (joined, "other"): "guard", (guard_of, "paper"): "kept"}


class GuardRefusals(Refusing, unittest.TestCase):
    right, wrong, calls, sorts = RIGHT, WRONG, CALLS, SORTS

    def test_all_wrong_the_first_one_is_refused(self):
        for call, names in CALLS.items():
            for thing in (None, True, "x", [], Unlike(), MANY_FIGURES, ()):
                error, part = (OutOfPlace, None) if names[0] == "deeds" else (BadWish, "form")
                self.refused(call, dict.fromkeys(names, thing), error, part)

    def test_guards_of_the_deeds_of_the_wish_alone(self):
        one, four = (((0, (0,)),),), (((0, (3,)),) * 4,)
        wide = (4, ((0, 0, 0, 0),), (0,))
        self.assertIs(keeps(ALL_GOOD, KIND, one), True)
        self.assertIs(keeps(wide, KIND, four), False)
        for wish, guard in ((ALL_GOOD, four), (DOOR, one), (DOOR, four), (wide, one),
                            (wide, HOLDER), (ALL_GOOD, HOLDER)):
            for call in (keeps, first_failing, judge_paper, held_and_early):
                things = {"wish": wish, "kind": KIND, "guard": guard}
                self.refused(call, things, BadGuard, "form")

    def test_guards_that_are_not_for_as_many_deeds(self):
        one = (((0, (0,)),),)
        for call in (are_fellows, parting_run, joined):
            self.refused(call, {"deeds": 2, "guard": HOLDER, "other": one}, BadGuard, "form")
            self.refused(call, {"deeds": 1, "guard": HOLDER, "other": one}, BadGuard, "form")
            self.refused(call, {"deeds": 1, "guard": one, "other": HOLDER}, BadGuard, "form")

    def test_runs_of_the_deeds_of_the_wish_alone(self):
        one = (((0, (0,)),),)
        self.assertEqual(output(1, one, (0, 0)), (0, 0))
        self.assertIsNone(failing(ALL_GOOD, KIND, one, (0,)))
        for run in ((1,), (0, 2), (0, -1)):
            self.refused(failing, {"wish": ALL_GOOD, "kind": KIND, "guard": one, "run": run},
                         OutOfPlace, None)
        for deed in no_numbers(1):
            for call in (output, memory_of):
                self.refused(call, {"deeds": 1, "guard": one, "run": (0, deed)}, OutOfPlace, None)

    def test_a_guard_that_fails_is_asked_all_the_same(self):
        self.assertEqual(failing(DOOR, KIND, CLOSED_TO_ALL, (1, 0)), (1, "run"))


if __name__ == "__main__":
    unittest.main()
