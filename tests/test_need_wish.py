"""What is a WISH, and what is refused for which part."""

import copy
import itertools
import unittest

from guardkeeps.errors import BadWish
from guardkeeps.wishes import need_wish
from things import (
    ALL_GOOD, MANY_FIGURES, MIXED, ROUND, Unlike, drawn_wishes, no_integers, no_numbers,
    no_tuples, wrong_wishes)


class NeedWish(unittest.TestCase):
    def let_by(self, thing):
        self.assertIs(need_wish(thing), thing)
        self.assertIs(need_wish(thing=thing), thing)

    def refused(self, part, thing):
        for ask in (lambda: need_wish(thing), lambda: need_wish(thing=thing)):
            with self.assertRaises(BadWish) as caught:
                ask()
            self.assertEqual(caught.exception.part, part)
            self.assertIs(caught.exception.__class__, BadWish)


class RightWishes(NeedWish):
    def test_by_hand(self):
        for wish in (ALL_GOOD, ROUND, MIXED):
            self.let_by(wish)

    def test_each_number_of_deeds_and_states(self):
        for deeds, states in itertools.product(range(1, 5), range(1, 7)):
            for behind in (0, states - 1):
                steps = ((behind,) * deeds,) * states
                self.let_by((deeds, steps, (0,)))
                self.let_by((deeds, steps, tuple(range(states))))

    def test_each_good(self):
        steps = ((5, 0), (4, 1), (3, 2), (2, 3), (1, 4), (0, 5))
        for size in range(6):
            for others in itertools.combinations(range(1, 6), size):
                self.let_by((2, steps, (0, *others)))

    def test_drawn(self):
        for wish in drawn_wishes(1, 5):
            self.let_by(wish)

    def test_afterwards_the_same(self):
        for wish in drawn_wishes(2, 2):
            kept = copy.deepcopy(wish)
            need_wish(wish)
            self.assertEqual(wish, kept)


class Form(NeedWish):
    def test_no_tuple(self):
        for thing in no_tuples():
            self.refused("form", thing)

    def test_a_list_with_the_right_things(self):
        self.refused("form", list(ROUND))

    def test_not_three_things(self):
        for thing in ((), (2,), ROUND[:2], (*ROUND, ()), (*ROUND, *ROUND), (0,) * 50):
            self.refused("form", thing)


class Deeds(NeedWish):
    def test_out_of_bounds(self):
        for deeds in (0, -1, -4, 5, 6, 100, MANY_FIGURES, -MANY_FIGURES):
            self.refused("deeds", (deeds, ROUND[1], ROUND[2]))

    def test_rows_that_fit_a_wrong_number(self):
        self.refused("deeds", (0, ((),), (0,)))
        self.refused("deeds", (5, ((0,) * 5,), (0,)))

    def test_no_integer(self):
        for deeds in no_integers():
            self.refused("deeds", (deeds, ((0,),), (0,)))
            self.refused("deeds", (deeds, ((0, 0),), (0,)))

    def test_true_in_the_place_of_one(self):
        self.let_by((1, ((0,),), (0,)))
        self.refused("deeds", (True, ((0,),), (0,)))


class Steps(NeedWish):
    def test_no_tuple(self):
        for steps in no_tuples():
            self.refused("steps", (2, steps, (0,)))

    def test_a_list_of_right_rows(self):
        self.refused("steps", (2, list(ROUND[1]), ROUND[2]))

    def test_too_few_or_too_many_states(self):
        self.refused("steps", (2, (), (0,)))
        for states in (7, 8, 50):
            self.refused("steps", (2, ((0, 0),) * states, (0,)))

    def test_a_row_that_is_no_tuple(self):
        for at in range(3):
            for row in (*no_tuples(), [0, 0]):
                self.refused("steps", (2, self.with_row(at, row), (0,)))

    def test_a_row_of_a_wrong_length(self):
        for deeds in range(1, 5):
            for length in (*range(7), 30):
                if length != deeds:
                    for at in range(3):
                        rows = [(0,) * deeds for _ in range(3)]
                        rows[at] = (0,) * length
                        self.refused("steps", (deeds, tuple(rows), (0,)))

    def test_what_is_no_state(self):
        for at in range(3):
            for wrong in no_numbers(3):
                self.refused("steps", (2, self.with_row(at, (wrong, 0)), (0,)))
                self.refused("steps", (2, self.with_row(at, (0, wrong)), (0,)))

    def test_the_number_of_states_is_no_state(self):
        for states in range(1, 7):
            steps = ((0,),) * (states - 1)
            self.let_by((1, (*steps, (states - 1,)), (0,)))
            self.refused("steps", (1, (*steps, (states,)), (0,)))
            self.refused("steps", (1, (*steps, (-1,)), (0,)))

    def with_row(self, at, row):
        rows = [(1, 2), (2, 0), (0, 1)]
        rows[at] = row
        return tuple(rows)


class Good(NeedWish):
    def wrong(self, good, states=3):
        self.refused("good", (2, ((0, states - 1),) * states, good))

    def test_no_tuple(self):
        for good in (*no_tuples(), [0, 1], [0, 2]):
            self.wrong(good)

    def test_without_zero(self):
        for good in ((), (1,), (2,), (1, 2)):
            self.wrong(good)

    def test_not_ascending(self):
        for good in ((1, 0), (2, 0), (0, 2, 1), (2, 1, 0), (1, 0, 2), (1, 2, 0)):
            self.wrong(good)

    def test_a_state_twice(self):
        for good in ((0, 0), (0, 0, 1), (0, 1, 1), (0, 1, 2, 2), (0, 1, 0)):
            self.wrong(good)

    def test_no_such_state(self):
        for states in range(1, 7):
            for good in ((0, states), (0, states + 1), (-1, 0), (-states, 0), (0, MANY_FIGURES),
                         (-MANY_FIGURES, 0), (0, -1)):
                self.wrong(good, states)

    def test_what_is_no_integer(self):
        for wrong in no_integers():
            for good in ((wrong,), (0, wrong), (wrong, 0), (wrong, 2), (0, 1, wrong),
                         (wrong, wrong), (0, wrong, 2)):
                self.wrong(good)

    def test_false_in_the_place_of_zero(self):
        self.let_by((2, ((0, 2),) * 3, (0, 1)))
        self.wrong((False,))
        self.wrong((False, 1))
        self.wrong((0, True))


class Several(NeedWish):
    DEEDS = (0, 5, True, None, "2", MANY_FIGURES, Unlike())
    STEPS = ((), [], None, ((0,),), ((0, 1),), ((0, 0),) * 7, (Unlike(),))
    GOOD = ((), [], None, (1,), (0, 0), (0, 9), (Unlike(),))

    def test_the_one_told_first(self):
        right = (2, ((0, 0),), (0,))
        self.let_by(right)
        places = [(right[0], *self.DEEDS), (right[1], *self.STEPS), (right[2], *self.GOOD)]
        for picks in itertools.product(range(8), repeat=3):
            thing = tuple(place[pick] for place, pick in zip(places, picks))
            parts = [part for part, pick in zip(("deeds", "steps", "good"), picks) if pick]
            if parts:
                self.refused(parts[0], thing)
                self.refused("form", (*thing, 0))
                self.refused("form", list(thing))

    def test_the_list_of_wrong_wishes(self):
        for thing, part in wrong_wishes():
            self.refused(part, thing)

    def test_a_refused_thing_is_the_same_afterwards(self):
        for make in (lambda: [2, [[0, 0]], [0]], lambda: (2, [[0, 0]], [0]),
                     lambda: (2, ((0, 0),), [0]), lambda: ([2], ([0, 0],), {0: 1})):
            thing = make()
            with self.assertRaises(BadWish):
                need_wish(thing)
            self.assertEqual(thing, make())

    def test_nothing_is_kept_of_a_refused_thing(self):
        self.let_by(ROUND)
        self.refused("good", (2, ROUND[1], (1,)))
        self.let_by(ROUND)


if __name__ == "__main__":
    unittest.main()
