"""GUARDS that are handed in: what is one, its OUTPUT, and its memory behind a RUN."""

import copy
import random
import unittest

import told
from guardkeeps.errors import BadGuard, OutOfPlace
from guardkeeps.guards import memory_of, need_guard, output
from things import (
    CLOSED_TO_ALL, HOLDER, OPEN_TO_ALL, Unlike, drawn_guard, no_integers, no_numbers, no_tuples,
    wrong_guards)

ROW = ((0, ()), (0, (1,)))
SIX = (0, 1, 1, 0, 1, 0)


class NeedGuard(unittest.TestCase):
    def right(self, deeds, thing):
        self.assertIs(need_guard(deeds, thing), thing)
        self.assertIs(need_guard(thing=thing, deeds=deeds), thing)

    def wrong(self, part, deeds, thing):
        for ask in (lambda: need_guard(deeds, thing), lambda: need_guard(thing=thing, deeds=deeds)):
            with self.assertRaises(BadGuard) as caught:
                ask()
            self.assertIs(caught.exception.__class__, BadGuard)
            self.assertEqual(caught.exception.part, part, thing)

    def test_right(self):
        for guard in (HOLDER, OPEN_TO_ALL, CLOSED_TO_ALL, (ROW, ROW)):
            self.right(2, guard)
        self.right(1, (((0, ()),),))
        self.right(4, (((0, (3,)),) * 4,))

    def test_one_to_eight_memories(self):
        for many in range(1, 9):
            self.right(2, (((many - 1, ()), (0, ())),) * many)
        self.wrong("form", 2, ())
        self.wrong("form", 2, (ROW,) * 9)
        self.wrong("form", 2, (ROW,) * 400)

    def test_up_to_six_deeds_shown(self):
        for many in range(7):
            self.right(2, (((0, SIX[:many]), (0, SIX)),))
        self.wrong("shown", 2, (((0, SIX), (0, (*SIX, 0))),))
        self.wrong("shown", 2, (((0, (1,) * 400), (0, ())),))

    def test_memories_that_never_come_and_the_same_twice(self):
        self.right(2, (ROW, ROW, ((7, ()), (6, ()))) + (ROW,) * 5)
        self.wrong("next", 2, (ROW, ROW, ((7, ()), (8, ()))) + (ROW,) * 5)
        self.wrong("shown", 2, (ROW, ((0, ()), (1, (2,)))))

    def test_drawn(self):
        draw = random.Random(81)
        for deeds in range(1, 5):
            for memories in range(1, 9):
                guard = drawn_guard(draw, deeds, memories)
                self.right(deeds, guard)
                for other in range(1, 5):
                    if other != deeds:
                        self.wrong("form", other, guard)

    def test_the_form(self):
        for thing in (*no_tuples(), [ROW], [list(ROW)], ROW[0], (ROW, list(ROW)), (ROW, ())):
            self.wrong("form", 2, thing)
        for thing in no_tuples():
            self.wrong("form", 2, (thing,))
            self.wrong("form", 2, (ROW, thing))
            self.wrong("form", 1, (thing, ROW[:1]))
        for row in ((), ROW[:1], (*ROW, (0, ())), ROW * 2):
            self.wrong("form", 2, (row,))
            self.wrong("form", 2, (ROW, ROW, row, ROW))

    def test_the_memory_behind(self):
        for pair in (*no_tuples(), (), (0,), (0, (), ()), [0, ()], ((0, ()),)):
            self.wrong("next", 2, ((pair, (0, ())),))
            self.wrong("next", 2, (ROW, ((0, ()), pair)))
        for many in (1, 2, 8):
            for behind in no_numbers(many):
                self.wrong("next", 1, (((0, ()),),) * (many - 1) + (((behind, ()),),))

    def test_what_is_shown(self):
        for shown in (*no_tuples(), [0], (0, (1,)), ((),), (0, 1, -1)):
            self.wrong("shown", 2, (((0, shown), (0, ())),))
            self.wrong("shown", 2, (ROW, ((0, ()), (1, shown))))
        for deed in no_numbers(2):
            self.wrong("shown", 2, (ROW, ((1, (deed,)), (0, ()))))
            self.wrong("shown", 2, (ROW, ((1, (0, 1, deed)), (0, ()))))

    def test_several_wrong_things(self):
        bad_next, bad_shown, both = ((2, ()), (0, ())), ((0, (9,)), (0, ())), ((2, (9,)), (0, ()))
        self.wrong("form", 2, (both, ROW[:1]))
        self.wrong("form", 2, (bad_next, []))
        self.wrong("form", 2, (bad_shown, None))
        self.wrong("form", 2, (both,) * 9)
        self.wrong("next", 2, (both, ROW))
        # The word is the one that is told first, not the one of the first thing that is wrong.
        self.wrong("next", 2, (bad_shown, bad_next))
        self.wrong("next", 2, (((0, None), None), ROW))
        self.wrong("shown", 2, (bad_shown, ROW))

    def test_each_of_the_parts(self):
        parts = set()
        for thing, part in wrong_guards():
            self.wrong(part, 2, thing)
            parts.add(part)
        self.assertEqual(parts, {"form", "next", "shown"})

    def test_the_number_of_deeds(self):
        for deeds in (*no_integers(), -1, 0, 5, 6, 10 ** 999, (1,)):
            for thing in (OPEN_TO_ALL, None, Unlike()):
                for ask in (lambda: need_guard(deeds, thing),
                            lambda: need_guard(thing=thing, deeds=deeds)):
                    with self.assertRaises(OutOfPlace):
                        ask()


class Walks(unittest.TestCase):
    def test_by_hand(self):
        for run, shown, memory in (
                ((), (), 0), ((1,), (1,), 0), ((0,), (), 1), ((0, 1), (0, 1), 0),
                ((1, 0, 1, 0), (1, 0, 1), 1), ((0, 0, 1, 1), (), 2), ((1, 0, 0), (1,), 2)):
            self.assertEqual(output(2, HOLDER, run), shown)
            self.assertEqual(memory_of(2, HOLDER, run), memory)

    def test_many_deeds(self):
        six = (((0, SIX), (0, ())),)
        self.assertEqual(output(2, six, (0,) * 400), SIX * 400)
        self.assertEqual(output(2, six, (1,) * 400), ())
        self.assertEqual(output(2, OPEN_TO_ALL, (0, 1) * 200), (0, 1) * 200)
        round_eight = tuple((((memory + 1) % 8, (0,)),) for memory in range(8))
        self.assertEqual([memory_of(1, round_eight, (0,) * many) for many in (0, 7, 8, 399, 400)],
                         [0, 7, 0, 7, 0])

    def test_drawn(self):
        draw = random.Random(82)
        for deeds in range(1, 5):
            for many in (0, 1, 2, 3, 10, 50, 400):
                guard = drawn_guard(draw, deeds)
                run = tuple(draw.randrange(deeds) for _ in range(many))
                kept = copy.deepcopy((guard, run))
                steps = told.steps_of(guard, run)
                whole = tuple(deed for _, shown, _ in steps for deed in shown)
                self.assertEqual(output(deeds, guard, run), whole)
                self.assertEqual(memory_of(deeds, guard, run), steps[-1][2] if steps else 0)
                self.assertEqual(output(run=run, guard=guard, deeds=deeds), whole)
                self.assertEqual(memory_of(guard=guard, deeds=deeds, run=run),
                                 memory_of(deeds, *kept))
                self.assertEqual((guard, run), kept)

    def test_more_than_400_deeds(self):
        for call in (output, memory_of):
            for run in ((0,) * 401, (0,) * 1000):
                with self.assertRaises(OutOfPlace):
                    call(2, OPEN_TO_ALL, run)


if __name__ == "__main__":
    unittest.main()
