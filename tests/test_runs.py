"""RUNS: their states, and which are GOOD or LIVE."""

import copy
import itertools
import unittest

from guardkeeps.errors import BadWish, OutOfPlace
from guardkeeps.wishes import is_good, is_live, live_states, state_of
from things import (
    ALL_GOOD, MANY_FIGURES, MIXED, ROUND, Unlike, drawn_wishes, no_numbers, no_tuples,
    wrong_wishes)

ASKED = (state_of, is_good, is_live)


def runs_up_to(deeds, most):
    """All RUNS of at most so many deeds."""
    return [run for many in range(most + 1)
            for run in itertools.product(range(deeds), repeat=many)]


def told_state(wish, run):
    """The state of a RUN by [2], deed by deed from behind."""
    return wish[1][told_state(wish, run[:-1])][run[-1]] if run else 0


def told_live_from(wish, state):
    """Whether deeds lead from a state to a GOOD one, all lots of deeds tried in turn."""
    for tail in runs_up_to(wish[0], len(wish[1]) - 1):
        behind = state
        for deed in tail:
            behind = wish[1][behind][deed]
        if behind in wish[2]:
            return True
    return False


class ByHand(unittest.TestCase):
    def test_state_of(self):
        self.assertEqual(state_of(ALL_GOOD, (0, 0, 0)), 0)
        self.assertEqual(state_of(ROUND, (1, 0, 1, 1)), 3)
        self.assertEqual(state_of(ROUND, (1,) * 8), 2)
        self.assertEqual(state_of(MIXED, (0,)), 1)
        self.assertEqual(state_of(MIXED, (1,)), 2)
        self.assertEqual(state_of(MIXED, (0, 0)), 0)
        self.assertEqual(state_of(MIXED, (0, 1, 0, 0)), 2)

    def test_the_order_of_the_deeds_counts(self):
        wish = (2, ((1, 2), (1, 1), (2, 2)), (0, 1))
        self.assertEqual(state_of(wish, (0, 1)), 1)
        self.assertEqual(state_of(wish, (1, 0)), 2)

    def test_deeds_up_to_the_last_one(self):
        for deeds in range(1, 5):
            wish = (deeds, (tuple(range(deeds)), *[(0,) * deeds] * 3), (0,))
            for deed in range(deeds):
                self.assertEqual(state_of(wish, (deed,)), deed)

    def test_is_good(self):
        self.assertIs(is_good(ROUND, (1,)), False)
        self.assertIs(is_good(ROUND, (1, 1)), False)
        self.assertIs(is_good(ROUND, (1, 1, 1)), True)
        self.assertIs(is_good(MIXED, (0,)), False)
        self.assertIs(is_good(MIXED, (0, 0)), True)
        self.assertIs(is_good(MIXED, (0, 0, 1)), False)
        self.assertIs(is_good(MIXED, (1, 0)), False)

    def test_is_live(self):
        self.assertIs(is_live(MIXED, (0,)), True)
        self.assertIs(is_live(MIXED, (0, 0)), True)
        self.assertIs(is_live(MIXED, (1,)), False)
        self.assertIs(is_live(MIXED, (0, 0, 0, 1, 0)), False)
        self.assertIs(is_live(ROUND, (1, 1, 1, 1)), True)

    def test_live_only_by_way_of_many_states(self):
        wish = (1, ((1,), (2,), (3,), (4,), (5,), (0,)), (0,))
        self.assertEqual(live_states(wish), (0, 1, 2, 3, 4, 5))
        for many in range(13):
            self.assertIs(is_live(wish, (0,) * many), True)
            self.assertIs(is_good(wish, (0,) * many), many % 6 == 0)

    def test_live_states(self):
        self.assertEqual(live_states(ALL_GOOD), (0,))
        self.assertEqual(live_states(ROUND), (0, 1, 2, 3, 4, 5))
        self.assertEqual(live_states((1, ((1,), (1,)), (0,))), (0,))
        self.assertEqual(live_states((1, ((1,), (2,), (2,)), (0, 2))), (0, 1, 2))
        self.assertEqual(live_states((2, ((2, 1), (1, 1), (2, 2)), (0, 2))), (0, 2))

    def test_states_that_no_run_reaches(self):
        self.assertEqual(live_states(MIXED), (0, 1, 3))
        self.assertEqual(live_states((1, ((0,), (1,), (0,), (3,)), (0, 3))), (0, 2, 3))
        self.assertEqual(live_states((1, ((0,), (0,), (1,), (2,), (3,), (4,)), (0,))),
                         (0, 1, 2, 3, 4, 5))

    def test_the_run_without_deeds(self):
        for wish in (ALL_GOOD, ROUND, MIXED, *drawn_wishes(3, 2)):
            self.assertEqual(state_of(wish, ()), 0)
            self.assertIs(is_good(wish, ()), True)
            self.assertIs(is_live(wish, ()), True)

    def test_by_name(self):
        self.assertEqual(state_of(wish=ROUND, run=(1, 1)), 2)
        self.assertEqual(state_of(run=(1, 1), wish=ROUND), 2)
        self.assertEqual(state_of(ROUND, run=(1, 1)), 2)
        self.assertIs(is_good(wish=ROUND, run=(1, 1, 1)), True)
        self.assertIs(is_live(wish=MIXED, run=(1,)), False)
        self.assertEqual(live_states(wish=MIXED), (0, 1, 3))


class Counted(unittest.TestCase):
    def compared(self, wish, most):
        live = tuple(state for state in range(len(wish[1])) if told_live_from(wish, state))
        self.assertEqual(live_states(wish), live, wish)
        for run in runs_up_to(wish[0], most):
            state = told_state(wish, run)
            self.assertEqual(state_of(wish, run), state, (wish, run))
            self.assertIs(is_good(wish, run), state in wish[2], (wish, run))
            self.assertIs(is_live(wish, run), state in live, (wish, run))

    def test_drawn_wishes(self):
        for wish in drawn_wishes(4, 4):
            self.compared(wish, 4)

    def test_a_run_is_live_exactly_if_deeds_behind_it_make_it_good(self):
        for wish in drawn_wishes(5, 1):
            tails = runs_up_to(wish[0], len(wish[1]) - 1)
            for run in runs_up_to(wish[0], 2):
                made_good = any(told_state(wish, run + tail) in wish[2] for tail in tails)
                self.assertIs(is_live(wish, run), made_good, (wish, run))

    def test_all_small_wishes(self):
        for states in range(1, 4):
            rows = list(itertools.product(range(states), repeat=2))
            for steps in itertools.product(rows, repeat=states):
                for size in range(states):
                    for others in itertools.combinations(range(1, states), size):
                        self.compared((2, steps, (0, *others)), 2)

    def test_kinds_of_results(self):
        for wish in drawn_wishes(6, 1):
            self.assertIs(state_of(wish, (0,)).__class__, int)
            self.assertIs(is_good(wish, (0,)).__class__, bool)
            self.assertIs(is_live(wish, (0,)).__class__, bool)
            self.assertIs(live_states(wish).__class__, tuple)

    def test_asked_twice(self):
        for wish in drawn_wishes(7, 1):
            again = copy.deepcopy(wish)
            for run in runs_up_to(wish[0], 2):
                for ask in ASKED:
                    self.assertEqual(ask(wish, run), ask(again, run))
                    self.assertEqual(ask(wish, run), ask(wish, run))
            self.assertEqual(live_states(wish), live_states(again))
            self.assertEqual(wish, again)

    def test_afterwards_the_same(self):
        for wish in drawn_wishes(8, 1):
            run = (0, wish[0] - 1, 0)
            kept = copy.deepcopy((wish, run))
            for ask in ASKED:
                ask(wish, run)
            live_states(wish)
            self.assertEqual((wish, run), kept)


class LongRuns(unittest.TestCase):
    def test_400_deeds_are_let_by(self):
        run = (1,) * 400
        self.assertEqual(state_of(ROUND, run), 400 % 6)
        self.assertIs(is_good(ROUND, run), False)
        self.assertIs(is_live(ROUND, run), True)
        self.assertIs(is_good(ROUND, (0, *run[1:])), True)
        self.assertIs(is_live(MIXED, (0,) * 399 + (1,)), False)

    def test_401_deeds_are_refused(self):
        for many in (401, 402, 800):
            for ask in ASKED:
                for wish in (ALL_GOOD, ROUND, MIXED):
                    with self.assertRaises(OutOfPlace):
                        ask(wish, (0,) * many)


class WrongRuns(unittest.TestCase):
    def refused(self, wish, run):
        for ask in ASKED:
            with self.assertRaises(OutOfPlace) as caught:
                ask(wish, run)
            self.assertIs(caught.exception.__class__, OutOfPlace)
            with self.assertRaises(OutOfPlace):
                ask(run=run, wish=wish)

    def test_no_tuple(self):
        for run in (*no_tuples(), [0], [0, 1], [1] * 400, "01", b"\x00\x01"):
            self.refused(ROUND, run)

    def test_what_is_no_deed(self):
        for wish in (ALL_GOOD, ROUND, (4, ((0, 0, 0, 0),), (0,))):
            for wrong in no_numbers(wish[0]):
                for run in ((wrong,), (0, wrong), (wrong, 0), (0, wrong, 0), (0,) * 399 + (wrong,)):
                    self.refused(wish, run)

    def test_a_deed_by_its_place_from_behind(self):
        self.refused(ROUND, (-1,))
        self.refused(ROUND, (-2,))

    def test_a_state_that_is_no_deed(self):
        self.refused(ROUND, (2,))
        self.refused(ROUND, (5,))

    def test_a_tuple_in_the_run(self):
        self.refused(ROUND, ((0, 1),))
        self.refused(ROUND, ((),))

    def test_a_refused_run_is_the_same_afterwards(self):
        run = [0, [1]]
        self.refused(ROUND, run)
        self.assertEqual(run, [0, [1]])
        self.assertEqual(state_of(ROUND, (0, 1)), 1)


class WrongWishes(unittest.TestCase):
    def test_the_wish_is_refused(self):
        for wish, part in wrong_wishes():
            for ask in ASKED:
                with self.assertRaises(BadWish) as caught:
                    ask(wish, ())
                self.assertEqual(caught.exception.part, part)
            with self.assertRaises(BadWish) as caught:
                live_states(wish)
            self.assertEqual(caught.exception.part, part)

    def test_the_wish_is_refused_first(self):
        for wish, part in wrong_wishes():
            for run in ((0,) * 401, (9,), (True,), [0], None, Unlike(), MANY_FIGURES):
                for ask in ASKED:
                    with self.assertRaises(BadWish) as caught:
                        ask(wish, run)
                    self.assertEqual(caught.exception.part, part)
                    with self.assertRaises(BadWish) as caught:
                        ask(run=run, wish=wish)
                    self.assertEqual(caught.exception.part, part)


if __name__ == "__main__":
    unittest.main()
