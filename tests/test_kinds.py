"""What is a KIND, and what is refused for which part."""

import copy
import itertools
import unittest

from guardkeeps.errors import BadKind, BadWish
from guardkeeps.kinds import need_kind
from things import (
    ALL_GOOD, MANY_FIGURES, MIXED, ROUND, Unlike, no_integers, no_numbers, no_tuples,
    wrong_wishes)

BY_DEEDS = [(deeds, ((0,) * deeds,), (0,)) for deeds in range(1, 5)]


class NeedKind(unittest.TestCase):
    def let_by(self, wish, thing):
        self.assertIs(need_kind(wish, thing), thing)
        self.assertIs(need_kind(wish=wish, thing=thing), thing)
        self.assertIs(need_kind(thing=thing, wish=wish), thing)

    def refused(self, part, thing, wish=ROUND):
        for _ in range(2):
            with self.assertRaises(BadKind) as caught:
                need_kind(wish, thing)
            self.assertEqual(caught.exception.part, part)
            self.assertIs(caught.exception.__class__, BadKind)
        with self.assertRaises(BadKind) as caught:
            need_kind(thing=thing, wish=wish)
        self.assertEqual(caught.exception.part, part)


class RightKinds(NeedKind):
    def test_all(self):
        for wish in BY_DEEDS:
            for size in range(wish[0] + 1):
                for loose in itertools.combinations(range(wish[0]), size):
                    for hold, ahead in itertools.product(range(4), range(3)):
                        self.let_by(wish, (hold, ahead, loose))

    def test_afterwards_the_same(self):
        wish, kind = copy.deepcopy(MIXED), (3, 2, (0, 1))
        need_kind(wish, kind)
        self.assertEqual((wish, kind), (MIXED, (3, 2, (0, 1))))


class Form(NeedKind):
    def test_no_tuple(self):
        for thing in (*no_tuples(), [0, 0, ()], [3, 2, (0, 1)]):
            self.refused("form", thing)

    def test_not_three_things(self):
        for thing in ((), (0,), (0, 0), (0, 0, (), ()), (0,) * 50):
            self.refused("form", thing)


class Hold(NeedKind):
    def test_out_of_bounds(self):
        for hold in (-1, -3, 4, 5, 100, MANY_FIGURES, -MANY_FIGURES):
            self.refused("hold", (hold, 0, ()))

    def test_no_integer(self):
        for hold in no_integers():
            self.refused("hold", (hold, 0, ()))


class Ahead(NeedKind):
    def test_out_of_bounds(self):
        for ahead in (-1, -2, 3, 4, 100, MANY_FIGURES, -MANY_FIGURES):
            self.refused("ahead", (0, ahead, ()))

    def test_no_integer(self):
        for ahead in no_integers():
            self.refused("ahead", (0, ahead, ()))


class Loose(NeedKind):
    def test_no_tuple(self):
        for loose in (*no_tuples(), [0, 1], [1]):
            self.refused("loose", (0, 0, loose))

    def test_not_ascending(self):
        wide = BY_DEEDS[3]
        for loose in ((1, 0), (0, 2, 1), (3, 2, 1, 0), (1, 2, 0), (0, 3, 2)):
            self.refused("loose", (0, 0, loose), wide)

    def test_a_deed_twice(self):
        for loose in ((0, 0), (1, 1), (0, 1, 1), (0, 0, 1)):
            self.refused("loose", (0, 0, loose))

    def test_what_is_no_deed(self):
        for wish in BY_DEEDS:
            for wrong in no_numbers(wish[0]):
                for loose in ((wrong,), (0, wrong), (wrong, 0), (wrong, wrong)):
                    self.refused("loose", (0, 0, loose), wish)

    def test_deeds_of_this_wish_alone(self):
        for wish in BY_DEEDS:
            self.let_by(wish, (0, 0, (wish[0] - 1,)))
            self.refused("loose", (0, 0, (wish[0],)), wish)
            self.refused("loose", (0, 0, tuple(range(wish[0] + 1))), wish)

    def test_states_are_no_deeds(self):
        self.refused("loose", (0, 0, (2,)), ROUND)
        self.refused("loose", (0, 0, (5,)), ROUND)


class Several(NeedKind):
    HOLD = (-1, 4, True, None, "0", Unlike())
    AHEAD = (-1, 3, False, None, "0", Unlike())
    LOOSE = ([], None, (1, 0), (0, 0), (9,), (Unlike(),))

    def test_the_one_told_first(self):
        places = [(1, *self.HOLD), (1, *self.AHEAD), ((1,), *self.LOOSE)]
        for picks in itertools.product(range(7), repeat=3):
            thing = tuple(place[pick] for place, pick in zip(places, picks))
            parts = [part for part, pick in zip(("hold", "ahead", "loose"), picks) if pick]
            if parts:
                self.refused(parts[0], thing)
                self.refused("form", (*thing, 0))
                self.refused("form", list(thing))

    def test_a_refused_thing_is_the_same_afterwards(self):
        for make in (lambda: [0, 0, [1, 0]], lambda: (0, 0, [1, 0]), lambda: ({0: 0}, 0, ())):
            thing = make()
            with self.assertRaises(BadKind):
                need_kind(ROUND, thing)
            self.assertEqual(thing, make())


class WrongWishes(NeedKind):
    KINDS = ((0, 0, ()), None, [0, 0, ()], (4, 0, ()), (0, 3, ()), (0, 0, [9]), Unlike())

    def test_the_wish_is_refused_first(self):
        for wish, part in wrong_wishes():
            for kind in self.KINDS:
                with self.assertRaises(BadWish) as caught:
                    need_kind(wish, kind)
                self.assertEqual(caught.exception.part, part)
                with self.assertRaises(BadWish) as caught:
                    need_kind(thing=kind, wish=wish)
                self.assertEqual(caught.exception.part, part)

    def test_a_kind_is_no_wish(self):
        with self.assertRaises(BadWish):
            need_kind((0, 0, ()), ALL_GOOD)


if __name__ == "__main__":
    unittest.main()
