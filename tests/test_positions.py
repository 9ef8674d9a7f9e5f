"""POSITIONS by their form, the ANSWERS at them, and where these lead."""

import copy
import itertools
import random
import unittest

import told
from guardkeeps.errors import OutOfPlace
from guardkeeps.games import answers, is_position, led
from things import (
    ALL_GOOD, DOOR, MANY_FIGURES, MIXED, ROUND, Unlike, drawn_games, no_integers, no_numbers,
    no_tuples)

WORDS = ("even", "behind", "ahead", "off")
FREE = (0, 0, ())
WIDE = (3, 2, ())

# Deed 1 leads on from 0 to the GOOD state 4, by four of it; deed 0 dooms on the way.
CHAIN = (2, ((0, 1), (5, 2), (5, 3), (5, 4), (0, 4), (5, 5)), (0, 4))


def tried_values(wish):
    """All values that look like a POSITION, with a few more states and deeds than there are."""
    states = range(-1, len(wish[1]) + 1)
    lots = told.lots(wish[0] + 1, 4 if wish[0] < 3 else 2)
    return [*itertools.product(WORDS, states), *itertools.product(WORDS, states, lots)]


class IsPosition(unittest.TestCase):
    def only(self, wish, kind, expected):
        found = [value for value in tried_values(wish) if is_position(wish, kind, value)]
        self.assertEqual(sorted(found), sorted(expected))

    def test_stopping_alone(self):
        self.only(DOOR, FREE, [("even", 0), ("off", 0)])
        self.only(ROUND, FREE, [("even", 0), ("even", 3), ("off", 0), ("off", 3)])

    def test_behind_by_hold(self):
        at_once = [("even", 0), ("even", 4), ("off", 0), ("off", 4)]
        held = [("behind", 0, (1,)), ("behind", 0, (1, 1)), ("behind", 0, (1, 1, 1))]
        for hold in range(4):
            self.only(CHAIN, (hold, 0, ()), at_once + held[:hold])

    def test_ahead_by_ahead(self):
        at_once = [("even", 0), ("even", 4), ("off", 0), ("off", 4)]
        shown = [("ahead", 3, (1,)), ("ahead", 2, (1, 1)), ("ahead", 3, (1, 0)),
                 ("ahead", 3, (1, 1))]
        self.only(CHAIN, (0, 1, ()), at_once + shown[:1])
        self.only(CHAIN, (0, 2, ()), at_once + shown)

    def test_no_loose_deed_is_held(self):
        for kind, held in (((2, 0, ()), [("behind", 0, (0,)), ("behind", 0, (0, 2)),
                                         ("behind", 0, (2,)), ("behind", 0, (2, 2))]),
                           ((2, 0, (0,)), [("behind", 0, (2,)), ("behind", 0, (2, 2))]),
                           ((2, 0, (2,)), [("behind", 0, (0,))]),
                           ((2, 0, (0, 1, 2)), [])):
            wish = (3, ((1, 0, 2), (3, 0, 2), (3, 0, 1), (3, 3, 3)), (0,))
            self.only(wish, kind, [("even", 0), ("off", 0)] + held)

    def test_a_loose_deed_may_be_shown_ahead(self):
        self.assertIs(is_position(DOOR, (0, 1, (1,)), ("ahead", 1, (1,))), True)
        self.assertIs(is_position(DOOR, (0, 1, (0, 1)), ("ahead", 1, (1,))), True)

    def test_nothing_held_is_good_on_the_way(self):
        self.assertIs(is_position(ROUND, WIDE, ("behind", 0, (1, 1))), True)
        self.assertIs(is_position(ROUND, WIDE, ("behind", 0, (1, 1, 1))), False)
        self.assertIs(is_position(ROUND, WIDE, ("behind", 0, (0,))), False)
        self.assertIs(is_position(ROUND, WIDE, ("behind", 0, (0, 1))), False)
        self.assertIs(is_position(ROUND, WIDE, ("behind", 0, (1, 0, 1))), True)

    def test_what_is_held_is_not_doomed(self):
        self.assertIs(is_position(DOOR, WIDE, ("behind", 0, (0,))), True)
        self.assertIs(is_position(DOOR, WIDE, ("behind", 0, (0, 0))), False)

    def test_what_is_shown_ahead_may_be_good_on_the_way(self):
        self.assertIs(is_position(DOOR, WIDE, ("ahead", 1, (1, 1))), True)
        self.assertIs(is_position(DOOR, WIDE, ("ahead", 1, (1, 0))), False)

    def test_a_good_run_is_not_ahead(self):
        self.assertIs(is_position(ALL_GOOD, WIDE, ("ahead", 0, (0,))), False)
        self.assertIs(is_position(ROUND, WIDE, ("ahead", 3, (0,))), False)

    def test_states_that_do_not_come(self):
        for position in (("ahead", 3, (1, 0)), ("ahead", 1, (0,))):
            self.assertIs(is_position(MIXED, WIDE, position), True)
        wish = (1, ((0,), (2,), (1,)), (0, 1))
        for position in (("even", 1), ("off", 1), ("behind", 1, (0,)), ("ahead", 2, (0,))):
            self.assertIs(is_position(wish, WIDE, position), True)

    def test_off_needs_no_doomed_state(self):
        self.assertIs(is_position(ALL_GOOD, FREE, ("off", 0)), True)
        self.assertIs(is_position(ROUND, FREE, ("off", 3)), True)
        self.assertIs(is_position(ROUND, FREE, ("off", 1)), False)

    def test_counted(self):
        for wish, kind in [*drawn_games(21, 2), (CHAIN, WIDE), (ROUND, WIDE), (MIXED, WIDE)]:
            expected = told.all_positions(wish, kind)
            found = [value for value in tried_values(wish) if is_position(wish, kind, value)]
            many = 4 if wish[0] < 3 else 2
            self.assertEqual(sorted(found), [position for position in expected
                                             if len(position) == 2 or len(position[2]) <= many])
            for position in expected:
                self.assertIs(is_position(wish, kind, position), True, (wish, kind, position))

    def test_by_name(self):
        self.assertIs(is_position(value=("even", 0), kind=FREE, wish=DOOR), True)
        self.assertIs(is_position(DOOR, FREE, value=("even", 1)), False)


class AnyValues(unittest.TestCase):
    """Values of any kind are no POSITIONS, and no error."""

    def no_position(self, value, wish=ROUND):
        self.assertIs(is_position(wish, WIDE, value), False, repr(value))

    def test_no_tuple(self):
        for value in (*no_tuples(), ["even", 0], ["behind", 0, (1,)], "even"):
            self.no_position(value)

    def test_a_wrong_number_of_things(self):
        for value in ((), ("even",), ("off",), ("even", 0, ()), ("even", 0, 0), ("off", 0, ()),
                      ("behind", 0), ("ahead", 1), ("behind", 0, (1,), ()),
                      ("ahead", 1, (1, 1), ()), (0, "even"), ("even", 0, (), ())):
            self.no_position(value)

    def test_a_wrong_word(self):
        for word in (*no_integers(), 0, 1, "Even", "even ", "ev", "behind", "kept", b"even"):
            self.no_position((word, 0))
        for word in (*no_integers(), 0, 1, "even", "off", "Behind", "behin", b"behind"):
            self.no_position((word, 0, (1,)))
            self.no_position((word, 1, (1, 1)))

    def test_a_wrong_state(self):
        for state in (*no_numbers(6), 1, 2, 4, 5):
            self.no_position(("even", state))
            self.no_position(("off", state))
            self.no_position(("behind", state, (0, 0)))
        for state in (*no_numbers(6), 0, 3):
            self.no_position(("ahead", state, (1, 1)))

    def test_a_state_from_behind(self):
        self.no_position(("even", -3))
        self.no_position(("ahead", -5, (1, 1)))

    def test_a_wrong_tuple_of_deeds(self):
        for deeds in (*no_tuples(), [1], [1, 1], ()):
            self.no_position(("behind", 0, deeds))
            self.no_position(("ahead", 1, deeds))

    def test_what_is_no_deed(self):
        for wrong in no_numbers(2):
            for deeds in ((wrong,), (1, wrong), (wrong, 1), (1, 1, wrong)):
                self.no_position(("behind", 0, deeds))
                self.no_position(("ahead", 1, deeds))
                self.no_position(("ahead", 2, deeds))

    def test_long_ones(self):
        for many in (4, 5, 400, 5000):
            self.no_position(("behind", 0, (1,) + (0,) * (many - 1)))
            self.no_position(("ahead", 1, (1, 1) + (0,) * (many - 2)))

    def test_deep_ones(self):
        value = ("even", 0)
        for _ in range(45):
            value = (value, 0)
        self.no_position(value)
        self.no_position(("even", value))
        self.no_position(("behind", 0, value))
        self.no_position(("behind", 0, (value,)))

    def test_the_value_is_the_same_afterwards(self):
        value = ["even", [0]]
        self.no_position(value)
        self.no_position(("behind", 0, value))
        self.assertEqual(value, ["even", [0]])


class Answers(unittest.TestCase):
    def leads(self, wish, kind, position, deed, expected):
        """expected has the ANSWERS, ascending, each with the POSITION behind it."""
        found = answers(wish, kind, position, deed)
        self.assertEqual(found, tuple(expected), (wish, kind, position, deed))
        for shown in found:
            self.assertEqual(led(wish, kind, position, deed, shown), expected[shown])

    def test_even(self):
        self.leads(DOOR, FREE, ("even", 0), 1, {(1,): ("even", 0)})
        self.leads(DOOR, FREE, ("even", 0), 0, {})
        self.leads(DOOR, (1, 0, ()), ("even", 0), 0, {(): ("behind", 0, (0,))})
        self.leads(DOOR, (0, 1, ()), ("even", 0), 0, {(0, 1): ("ahead", 1, (1,))})
        self.leads(DOOR, (3, 2, ()), ("even", 0), 0, {
            (): ("behind", 0, (0,)), (0, 1): ("ahead", 1, (1,)), (0, 1, 1): ("ahead", 1, (1, 1))})

    def test_even_a_loose_deed_has_to_be_shown(self):
        self.leads(DOOR, (1, 0, (0,)), ("even", 0), 0, {})
        self.leads(DOOR, (3, 1, (0,)), ("even", 0), 0, {(0, 1): ("ahead", 1, (1,))})
        self.leads(DOOR, (3, 2, (0, 1)), ("even", 0), 1, {(1,): ("even", 0)})

    def test_even_doomed(self):
        self.leads(MIXED, FREE, ("even", 0), 1, {(): ("off", 0)})
        self.leads(MIXED, (3, 2, (1,)), ("even", 0), 1, {})
        self.leads(MIXED, (3, 2, (0,)), ("even", 0), 1, {(): ("off", 0)})

    def test_behind(self):
        at = ("behind", 0, (0,))
        self.leads(DOOR, (1, 0, ()), at, 1, {(0, 1): ("even", 0)})
        self.leads(DOOR, (1, 0, ()), at, 0, {(): ("off", 0)})
        self.leads(CHAIN, (3, 2, ()), ("behind", 0, (1,)), 1, {
            (): ("behind", 0, (1, 1)), (1, 1, 1, 1): ("ahead", 2, (1, 1))})
        self.leads(CHAIN, (1, 2, ()), ("behind", 0, (1,)), 1, {(1, 1, 1, 1): ("ahead", 2, (1, 1))})
        self.leads(CHAIN, (1, 1, ()), ("behind", 0, (1,)), 1, {})
        self.leads(CHAIN, (3, 1, ()), ("behind", 0, (1, 1)), 1, {
            (): ("behind", 0, (1, 1, 1)), (1, 1, 1, 1): ("ahead", 3, (1,))})
        self.leads(CHAIN, (3, 0, ()), ("behind", 0, (1, 1, 1)), 1, {(1, 1, 1, 1): ("even", 4)})

    def test_behind_a_loose_deed_cannot_be_shown_first(self):
        self.leads(DOOR, (1, 0, (1,)), ("behind", 0, (0,)), 1, {})
        self.leads(DOOR, (3, 2, (1,)), ("behind", 0, (0,)), 1, {})
        wish = (2, ((1, 0), (1, 1), (0, 1)), (0,))
        self.leads(wish, (1, 0, (1,)), ("even", 0), 0, {(): ("off", 0)})

    def test_behind_doomed_by_a_loose_deed(self):
        # Deed 0 waits, deed 1 is GOOD at 0 and DOOMED at 1, deed 2 ends the wait.
        wish = (3, ((1, 0, 0), (1, 2, 0), (2, 2, 2)), (0,))
        at = ("behind", 0, (0,))
        self.leads(wish, (1, 0, (1,)), at, 1, {(1,): ("off", 0)})
        self.leads(wish, (1, 1, (1,)), at, 1, {
            (1,): ("off", 0), (1, 1): ("off", 0), (1, 2): ("off", 0)})
        self.leads(wish, (1, 2, ()), at, 1, {(): ("off", 0)})

    def test_ahead(self):
        at = ("ahead", 1, (1,))
        self.leads(DOOR, (0, 1, ()), at, 1, {(): ("even", 0)})
        self.leads(DOOR, (0, 1, ()), at, 0, {(): ("off", 0)})
        self.leads(DOOR, (0, 2, ()), ("ahead", 1, (1, 1)), 1, {})
        self.leads(CHAIN, (0, 2, ()), ("ahead", 2, (1, 1)), 1, {
            (): ("ahead", 3, (1,)), (0,): ("ahead", 3, (1, 0)), (1,): ("ahead", 3, (1, 1))})

    def test_ahead_of_another_live_deed(self):
        self.leads(ROUND, WIDE, ("ahead", 1, (1, 1)), 0, {})
        self.leads(ROUND, WIDE, ("ahead", 2, (0, 1)), 0, {
            (): ("ahead", 2, (1,)), (0,): ("ahead", 2, (1, 0))})

    def test_ahead_a_loose_deed_has_to_be_shown_again(self):
        self.leads(DOOR, (0, 1, (1,)), ("ahead", 1, (1,)), 1, {})
        self.leads(CHAIN, (0, 2, (1,)), ("ahead", 2, (1, 1)), 1, {(1,): ("ahead", 3, (1, 1))})
        self.leads(CHAIN, (0, 2, (0,)), ("ahead", 2, (1, 1)), 1, {
            (): ("ahead", 3, (1,)), (0,): ("ahead", 3, (1, 0)), (1,): ("ahead", 3, (1, 1))})

    def test_ahead_doomed_by_a_loose_deed(self):
        self.leads(DOOR, (0, 1, (0,)), ("ahead", 1, (1,)), 0, {(0, 1): ("off", 0)})
        self.leads(DOOR, (0, 2, (0,)), ("ahead", 1, (1,)), 0, {
            (0, 1): ("off", 0), (0, 1, 1): ("off", 0)})
        self.leads(CHAIN, (0, 2, (0,)), ("ahead", 3, (1,)), 0, {
            (0,): ("off", 0), (0, 0): ("off", 0), (0, 0, 0): ("off", 0)})

    def test_off(self):
        self.leads(DOOR, WIDE, ("off", 0), 0, {(): ("off", 0)})
        self.leads(CHAIN, WIDE, ("off", 4), 1, {(): ("off", 4)})

    def test_off_deeds_shown_behind_a_loose_one(self):
        self.leads(DOOR, (3, 0, (0,)), ("off", 0), 0, {})
        self.leads(DOOR, (0, 1, (0,)), ("off", 0), 0, {(0, 1): ("off", 0)})
        self.leads(DOOR, (0, 2, (0,)), ("off", 0), 0, {
            (0, 1): ("off", 0), (0, 1, 1): ("off", 0)})
        self.leads(DOOR, (0, 2, (0,)), ("off", 0), 1, {(): ("off", 0)})
        self.leads(CHAIN, (0, 1, (0, 1)), ("off", 4), 1, {
            (1,): ("off", 4), (1, 0): ("off", 0), (1, 1): ("off", 4)})
        self.leads(CHAIN, (0, 0, (0, 1)), ("off", 4), 0, {(0,): ("off", 0)})

    def test_positions_that_do_not_come(self):
        self.leads(MIXED, (0, 2, ()), ("ahead", 3, (1, 0)), 1, {
            (): ("ahead", 1, (0,))})
        self.leads(MIXED, (0, 2, ()), ("ahead", 3, (1, 0)), 0, {(): ("off", 0)})
        self.leads(ALL_GOOD, FREE, ("off", 0), 0, {(): ("off", 0)})
        self.leads(ALL_GOOD, (0, 1, (0,)), ("off", 0), 0, {
            (0,): ("off", 0), (0, 0): ("off", 0)})

    def test_counted(self):
        draw = random.Random(22)
        for wish, kind in [*drawn_games(22, 4), (CHAIN, WIDE), (ROUND, WIDE), (MIXED, WIDE)]:
            positions = told.all_positions(wish, kind)
            for position in draw.sample(positions, min(len(positions), 7)):
                for deed in range(wish[0]):
                    expected = dict(told.answers(wish, kind, position, deed))
                    self.leads(wish, kind, position, deed, expected)

    def test_each_leads_to_a_position(self):
        for wish, kind in drawn_games(23, 2):
            for position in told.all_positions(wish, kind)[::5]:
                for deed in range(wish[0]):
                    for shown in answers(wish, kind, position, deed):
                        behind = led(wish, kind, position, deed, shown)
                        self.assertIs(is_position(wish, kind, behind), True)

    def test_kinds_of_results(self):
        found = answers(DOOR, WIDE, ("even", 0), 0)
        self.assertIs(found.__class__, tuple)
        for shown in found:
            self.assertIs(shown.__class__, tuple)
            self.assertIs(led(DOOR, WIDE, ("even", 0), 0, shown).__class__, tuple)

    def test_by_name(self):
        self.assertEqual(answers(deed=1, position=("even", 0), kind=FREE, wish=DOOR), ((1,),))
        self.assertEqual(answers(DOOR, FREE, deed=1, position=("even", 0)), ((1,),))
        self.assertEqual(
            led(shown=(1,), deed=1, position=("even", 0), kind=FREE, wish=DOOR), ("even", 0))
        self.assertEqual(led(DOOR, FREE, ("even", 0), 1, shown=(1,)), ("even", 0))

    def test_equal_calls(self):
        for wish, kind in drawn_games(24, 1):
            for position in told.all_positions(wish, kind)[:4]:
                asked = (wish, kind, position, wish[0] - 1)
                kept = copy.deepcopy(asked)
                self.assertEqual(answers(*asked), answers(*kept))
                self.assertEqual(asked, kept)


class NoAnswers(unittest.TestCase):
    def refused(self, position, deed, shown, kind=WIDE, wish=DOOR):
        with self.assertRaises(OutOfPlace) as caught:
            led(wish, kind, position, deed, shown)
        self.assertIs(caught.exception.__class__, OutOfPlace)

    def test_no_tuple_of_deeds(self):
        for shown in (*no_tuples(), [], [1], [0, 1]):
            self.refused(("even", 0), 0, shown)
            self.refused(("even", 0), 1, shown)
        for wrong in no_numbers(2):
            for shown in ((wrong,), (0, wrong), (wrong, 1)):
                self.refused(("even", 0), 0, shown)

    def test_true_in_the_place_of_one(self):
        self.assertEqual(led(DOOR, WIDE, ("even", 0), 1, (1,)), ("even", 0))
        self.refused(("even", 0), 1, (True,))
        self.refused(("even", 0), 1, (1.0,))
        self.refused(("even", 0), 0, (False, 1))

    def test_all_lots_that_are_none(self):
        for wish, kind in [*drawn_games(25, 1), (DOOR, WIDE), (DOOR, (0, 2, (0, 1)))]:
            for position in told.all_positions(wish, kind)[::6]:
                for deed in range(wish[0]):
                    found = answers(wish, kind, position, deed)
                    for shown in told.lots(wish[0], 3):
                        if shown not in found:
                            self.refused(position, deed, shown, kind, wish)

    def test_an_answer_of_another_kind_position_or_deed(self):
        self.refused(("even", 0), 0, (), kind=FREE)
        self.refused(("even", 0), 0, (0, 1, 1), kind=(0, 1, ()))
        self.refused(("even", 0), 1, (0, 1))
        self.refused(("off", 0), 1, (1,))

    def test_long_ones(self):
        for many in (6, 7, 400, 5000):
            self.refused(("even", 0), 0, (0,) + (1,) * many)

    def test_refused_things_are_the_same_afterwards(self):
        shown = [0, [1]]
        self.refused(("even", 0), 0, shown)
        self.refused(("even", 0), 0, (0, shown))
        self.assertEqual(shown, [0, [1]])
        self.refused(("even", 0), 0, Unlike())
        self.refused(("even", 0), 0, MANY_FIGURES)


if __name__ == "__main__":
    unittest.main()
