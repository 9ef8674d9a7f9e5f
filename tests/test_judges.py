"""GUARDS judged: RUNS that fail, each with its WORD, and whether a GUARD keeps a WISH."""

import copy
import random
import unittest

import told
from guardkeeps.errors import Nothing
from guardkeeps.games import can_be_kept, kept_paper
from guardkeeps.judges import failing, first_failing, held_and_early, keeps
from things import (
    ALL_GOOD, CLOSED_TO_ALL, DOOR, HOLDER, MIXED, OPEN_TO_ALL, ROUND, SHUTTER, drawn_guard,
    drawn_judged, drawn_wishes)

FREE = (0, 0, ())
EVERYTHING = (2, ((0, 0),), (0,))

# Deed 0 is never GOOD again; deed 1 leads to 1, from where deed 1 leads back.
NO_ZERO = (2, ((2, 1), (2, 0), (2, 2)), (0,))


def count_runs(wish):
    """How many deeds all RUNS tried have at most."""
    return {1: 9, 2: 6, 3: 4, 4: 3}[wish[0]]


class Failing(unittest.TestCase):
    def fails(self, wish, kind, guard, run, expected):
        self.assertEqual(failing(wish, kind, guard, run), expected)
        self.assertEqual(failing(run=run, guard=guard, kind=kind, wish=wish), expected)
        if expected is not None:
            self.assertIs(failing(wish, kind, guard, run).__class__, tuple)
            self.assertIsNone(failing(wish, kind, guard, run[:expected[0] - 1]))

    def test_none(self):
        for run in ((), (0,), (1,), (0, 1), (0, 0), (0, 1, 1, 0, 1, 0, 0, 1), (0, 1) * 200):
            self.fails(DOOR, (1, 0, ()), HOLDER, run, None)
            self.fails(DOOR, (0, 1, ()), SHUTTER, run, None)
            self.fails(EVERYTHING, FREE, OPEN_TO_ALL, run, None)

    def test_no_deed_at_all(self):
        for wish, kind, guard in drawn_judged(83, 1):
            self.fails(wish, kind, guard, (), None)

    def test_good(self):
        self.fails(DOOR, FREE, OPEN_TO_ALL, (0,), (1, "good"))
        self.fails(DOOR, (3, 2, ()), OPEN_TO_ALL, (1, 1, 0), (3, "good"))
        self.fails(DOOR, (0, 0, (0, 1)), OPEN_TO_ALL, (0,), (1, "good"))

    def test_run(self):
        self.fails(EVERYTHING, FREE, CLOSED_TO_ALL, (1,), (1, "run"))
        self.fails(DOOR, FREE, CLOSED_TO_ALL, (0,), (1, "run"))
        self.fails(DOOR, FREE, CLOSED_TO_ALL, (1,), (1, "run"))
        # It holds one deed, then two.
        wish = (1, ((1,), (2,), (0,)), (0,))
        held = (((0, ()),),)
        self.fails(wish, (1, 0, ()), held, (0, 0, 0), (2, "run"))
        self.fails(wish, (2, 0, ()), held, (0, 0, 0), (3, "run"))
        self.fails(wish, (3, 0, ()), held, (0, 0, 0), (3, "run"))
        # It is two ahead, then four.
        self.fails(wish, (3, 1, ()), (((0, (0, 0, 0)),),), (0, 0), (1, "run"))
        self.fails(wish, (0, 2, ()), (((0, (0, 0, 0)),),), (0, 0), (2, "run"))

    def test_run_of_other_deeds(self):
        other = (((0, (1,)), (0, (0,))),)
        self.fails(EVERYTHING, (3, 2, ()), other, (0,), (1, "run"))
        # Shown are as many deeds as are wanted, but other ones.
        self.fails(ROUND, (3, 2, ()), (((0, (0,)), (0, (0,))),), (0, 1, 0), (2, "run"))
        # Fewer are shown than come, as may be, but other ones.
        long = (2, ((1, 0), (2, 3), (0, 3), (3, 3)), (0,))
        self.fails(long, (2, 0, ()), (((1, ()), (0, (1,))), ((1, (1,)), (1, ()))), (0, 0),
                   (2, "run"))
        ahead = (((1, (0, 1, 1)), (0, (1,))), ((1, ()), (1, ())))
        self.fails(DOOR, (0, 2, ()), ahead, (0, 1), (2, "run"))

    def test_run_if_it_is_good(self):
        # GOOD RUNS are neither held back nor shown with more.
        self.fails(EVERYTHING, (3, 2, ()), (((0, (0, 0)), (0, (1,))),), (1, 0), (2, "run"))
        self.fails(EVERYTHING, (3, 2, ()), (((0, ()), (0, (1,))),), (1, 0), (2, "run"))

    def test_loose(self):
        # The door may be held, but not if opening it is LOOSE.
        self.fails(DOOR, (1, 0, (0,)), HOLDER, (0,), (1, "loose"))
        self.fails(DOOR, (1, 0, (1,)), HOLDER, (1, 1, 0, 1), (4, "loose"))
        # What is shown first is another deed, though the OUTPUT is the RUN.
        late = (((1, ()), (0, (1,))), ((0, (0, 0)), (0, ())))
        wish = (2, ((1, 0), (0, 1)), (0,))
        self.fails(wish, (1, 0, ()), late, (0, 0), None)
        self.fails(wish, (1, 0, (1,)), (((1, ()), (0, (1,))), ((0, (0, 0)), (1, ()))), (0, 1),
                   (2, "run"))
        self.fails(wish, (2, 0, (1,)), (((1, ()), (0, (1,))), ((0, (0, 0)), (1, ()))), (0, 1),
                   (2, "loose"))

    def test_loose_if_it_is_doomed(self):
        # Deed 0 dooms; behind it, shown as the output's first, deeds may follow.
        wish = (2, ((1, 0), (1, 1)), (0, 1))
        self.fails(wish, (0, 2, (0,)), OPEN_TO_ALL, (0, 0), None)
        wish = (2, ((1, 0), (2, 0), (2, 2)), (0,))
        for ahead, expected in ((0, (2, "loose")), (1, (2, "loose")), (2, (2, "loose"))):
            guard = (((1, (0, 1)), (0, (1,))), ((1, (0, 1, 1, 1)), (0, ())))
            kind = (0, ahead, (0,))
            self.fails(wish, kind, guard, (0, 0), (1, "run") if ahead == 0 else expected)
        # As many as AHEAD behind it are right.
        for many, ahead in ((1, 1), (2, 2), (1, 2)):
            guard = (((1, (0, 1)), (0, (1,))), ((1, (0,) + (1,) * many), (0, ())))
            self.fails(wish, (0, ahead, (0,)), guard, (0, 0), None)
        guard = (((1, (0, 1)), (0, (1,))), ((1, (0, 1, 1)), (0, ())))
        self.fails(wish, (0, 1, (0,)), guard, (0, 0), (2, "loose"))
        # It is shown, but not first.
        guard = (((1, (0, 1)), (0, (1,))), ((1, (1, 0, 1)), (0, ())))
        self.fails(wish, (0, 2, (0,)), guard, (0, 0), (2, "loose"))
        # It is left out.
        guard = (((1, (0, 1)), (0, (1,))), ((1, ()), (0, ())))
        self.fails(wish, (0, 2, (0,)), guard, (0, 0), (2, "loose"))

    def test_still(self):
        # The deed that dooms is let out, as deeds that make the OUTPUT GOOD.
        self.fails(DOOR, (1, 0, ()), (((1, ()), (0, (1,))), ((2, (0, 1)), (0, (0, 1))),
                                      ((2, ()), (2, ()))), (0, 0), (2, "still"))
        # Deeds come once the RUN is DOOMED.
        self.fails(DOOR, (1, 0, ()), (*HOLDER[:2], ((2, ()), (2, (1,)))), (0, 0, 0, 1),
                   (4, "still"))
        self.fails(DOOR, (1, 0, (1,)), (*HOLDER[:2], ((2, ()), (2, (1,)))), (0, 0, 0, 1), None)

    def test_the_first_of_several_points(self):
        # "good" and "still": the deed that dooms is let out.
        self.fails(NO_ZERO, FREE, OPEN_TO_ALL, (0,), (1, "good"))
        # "good" and "run".
        self.fails(DOOR, FREE, (((0, (0, 0)), (0, (0,))),), (1,), (1, "good"))
        # "good", "run" and "loose".
        self.fails(DOOR, (0, 0, (1,)), (((0, (0, 0)), (0, (0,))),), (1,), (1, "good"))
        # "good" and "loose".
        self.fails(DOOR, (0, 0, (0, 1)), (((0, (0, 0)), (0, (0,))),), (1,), (1, "good"))
        # "run" and "loose".
        self.fails(EVERYTHING, (3, 2, (0, 1)), CLOSED_TO_ALL, (1,), (1, "run"))
        self.fails(EVERYTHING, (3, 2, (0, 1)), (((0, (1,)), (0, (0,))),), (1,), (1, "run"))

    def test_which_points_go_together(self):
        drawn = set()
        for wish, kind, guard in drawn_judged(84, 6):
            run = first_failing(wish, kind, guard)
            if run is not None:
                before, shown, _ = told.steps_of(guard, run)[-1]
                words = told.broken_points(wish, kind, 0, run, before, shown)
                drawn.add(tuple(words))
                self.fails(wish, kind, guard, run, (len(run), words[0]))
        self.assertTrue({("good",), ("run",), ("loose",), ("still",), ("good", "run"),
                         ("good", "loose"), ("good", "still"), ("run", "loose"),
                         ("good", "run", "loose")} <= drawn, drawn)

    def test_a_shorter_beginning(self):
        for run in ((0, 1), (0, 0, 0), (0,) * 400, (0, 1) * 200):
            self.fails(DOOR, FREE, OPEN_TO_ALL, run, (1, "good"))
        self.fails(DOOR, FREE, OPEN_TO_ALL, (1,) * 399 + (0,), (400, "good"))
        self.fails(DOOR, FREE, OPEN_TO_ALL, (1,) * 400, None)

    def test_what_fails_late(self):
        late = tuple(((min(memory + 1, 7), () if memory == 7 else (0,)),) for memory in range(8))
        for many in range(12):
            self.fails(ALL_GOOD, (3, 2, ()), late, (0,) * many, (8, "run") if many > 7 else None)

    def test_counted(self):
        draw = random.Random(85)
        words = set()
        for wish, kind, guard in drawn_judged(85, 8):
            for many in (1, 2, 3, 5, 8, 40):
                run = tuple(draw.randrange(wish[0]) for _ in range(many))
                kept = copy.deepcopy((wish, kind, guard, run))
                expected = told.failing(wish, kind, guard, run)
                self.assertEqual(failing(wish, kind, guard, run), expected, kept)
                self.assertEqual((wish, kind, guard, run), kept)
                words.add(expected and expected[1])
        self.assertEqual(words, {None, "good", "run", "loose", "still"})


class Keeps(unittest.TestCase):
    def test_by_hand(self):
        for wish, kind, guard, expected in (
                (DOOR, (1, 0, ()), HOLDER, True), (DOOR, (3, 2, ()), HOLDER, True),
                (DOOR, (0, 0, ()), HOLDER, False), (DOOR, (0, 2, ()), HOLDER, False),
                (DOOR, (1, 0, (0,)), HOLDER, False), (DOOR, (1, 0, (1,)), HOLDER, False),
                (DOOR, (0, 1, ()), SHUTTER, True), (DOOR, (0, 1, (0,)), SHUTTER, False),
                (DOOR, (3, 0, ()), SHUTTER, False), (EVERYTHING, FREE, OPEN_TO_ALL, True),
                (EVERYTHING, (0, 0, (0, 1)), OPEN_TO_ALL, True),
                (EVERYTHING, FREE, CLOSED_TO_ALL, False), (DOOR, FREE, CLOSED_TO_ALL, False)):
            self.assertIs(keeps(wish, kind, guard), expected)
            self.assertIs(keeps(guard=guard, kind=kind, wish=wish), expected)

    def test_counted(self):
        found = set()
        for wish, kind, guard in drawn_judged(86, 5):
            kept = copy.deepcopy((wish, kind, guard))
            _, failed = told.coming_places(wish, kind, guard)
            self.assertIs(keeps(wish, kind, guard), not failed, kept)
            self.assertEqual((wish, kind, guard), kept)
            found.add(failed)
        self.assertEqual(found, {True, False})

    def test_memories_that_never_come(self):
        never = ((5, (0, 0)), (4, (1,) * 6))
        more = (*HOLDER, never, never, ((5, ()), (3, ())))
        self.assertIs(keeps(DOOR, (1, 0, ()), more), True)
        self.assertIsNone(first_failing(DOOR, (1, 0, ()), more))

    def test_the_same_memory_twice(self):
        twice = (((1, ()), (3, (1,))), ((2, ()), (0, (0, 1))), ((2, ()), (2, ())),
                 ((1, ()), (0, (1,))))
        self.assertIs(keeps(DOOR, (1, 0, ()), twice), True)

    def test_six_deeds_shown_at_once(self):
        # Three are held back, then shown with the fourth, two more ahead of the program.
        wish = (1, ((1,), (2,), (3,), (4,), (5,), (0,)), (0,))
        held = (((1, ()),), ((2, ()),), ((3, ()),), ((4, (0,) * 6),), ((5, ()),), ((0, ()),))
        self.assertIs(keeps(wish, (3, 2, ()), held), True)
        for kind in ((2, 2, ()), (3, 1, ()), (3, 2, (0,))):
            self.assertIs(keeps(wish, kind, held), False)

    def test_no_guard_keeps_what_cannot_be_kept(self):
        for wish, kind, guard in drawn_judged(87, 6):
            if not can_be_kept(wish, kind):
                self.assertIs(keeps(wish, kind, guard), False)


class FirstFailing(unittest.TestCase):
    def test_by_hand(self):
        for wish, kind, guard, expected in (
                (DOOR, (1, 0, ()), HOLDER, None), (DOOR, FREE, OPEN_TO_ALL, (0,)),
                (EVERYTHING, FREE, CLOSED_TO_ALL, (0,)), (DOOR, (0, 0, (1,)), CLOSED_TO_ALL, (0,)),
                (EVERYTHING, FREE, (((0, (0,)), (0, ())),), (1,)),
                (DOOR, (1, 0, (1,)), HOLDER, (0, 1))):
            self.assertEqual(first_failing(wish, kind, guard), expected)
            self.assertEqual(first_failing(kind=kind, wish=wish, guard=guard), expected)

    def test_the_fewest_deeds_are_first(self):
        # (0, 0) and (1,) fail; in the order of tuples (0, 0) stands ahead.
        guard = (((1, (0,)), (0, ())), ((0, ()), (0, ())))
        self.assertEqual(first_failing(EVERYTHING, FREE, guard), (1,))

    def test_ascending_among_as_many(self):
        # (1, 1) and (2, 0) fail.
        wide = (3, ((0, 0, 0),), (0,))
        guard = (((0, (0,)), (1, (1,)), (2, (2,))), ((0, (0,)), (0, ()), (0, (2,))),
                 ((0, ()), (0, (1,)), (0, (2,))))
        self.assertEqual(first_failing(wide, FREE, guard), (1, 1))
        # (0, 1) and (1, 0) fail, and both lead to the same memory.
        guard = (((1, (0,)), (1, (1,)), (0, (2,))), ((1, (0,)), (0, ()), (0, (2,))))
        self.assertEqual(first_failing(wide, FREE, guard), (0, 1))

    def test_the_memory_tells_more_than_the_position(self):
        guard = (((1, (0,)), (0, (1,))), ((2, (0,)), (1, (1,))), ((2, (0,)), (2, ())))
        self.assertEqual(first_failing(EVERYTHING, FREE, guard), (0, 0, 1))

    def test_the_position_tells_more_than_the_memory(self):
        once = (((0, (0,)), (0, (1,))),)
        self.assertEqual(first_failing((2, ((1, 0), (2, 1), (2, 2)), (0, 1)), FREE, once), (0, 0))

    def test_a_late_one(self):
        late = tuple(((min(memory + 1, 7), () if memory == 7 else (0,)),) for memory in range(8))
        self.assertEqual(first_failing(ALL_GOOD, FREE, late), (0,) * 8)
        # Six states and seven memories, of which one shows too little in one of the states.
        steps = tuple(((state + 1) % 6,) for state in range(6))
        wish = (1, steps, (0, 1, 2, 3, 4))
        around = tuple((((memory + 1) % 7, (0,)),) for memory in range(7))
        self.assertEqual(first_failing(wish, FREE, around), (0,) * 5)
        wish = (1, steps, (0, 1, 2, 3, 4, 5))
        self.assertIsNone(first_failing(wish, FREE, around))

    def test_counted(self):
        for wish, kind, guard in drawn_judged(88, 5):
            kept = copy.deepcopy((wish, kind, guard))
            found = first_failing(wish, kind, guard)
            most = count_runs(wish)
            tried = [run for run in told.lots(wish[0], most)
                     if told.failing(wish, kind, guard, run)]
            if found is None or len(found) > most:
                self.assertEqual(tried, [])
            else:
                self.assertEqual(found, tried[0])
            if found is not None:
                self.assertEqual(told.failing(wish, kind, guard, found)[0], len(found))
            self.assertEqual((wish, kind, guard), kept)
            self.assertEqual(first_failing(*kept), found)

    def test_within_the_rank_that_is_told_plus_1(self):
        draw = random.Random(89)
        exactly = 0
        for wish, kind, guard in drawn_judged(89, 12):
            word, table = kept_paper(wish, kind)
            if word == "lost":
                most = {position: rank for position, _, rank in table}["even", 0] + 1
                for judged in (guard, drawn_guard(draw, wish[0]), drawn_guard(draw, wish[0], 1)):
                    found = first_failing(wish, kind, judged)
                    self.assertLessEqual(len(found), most)
                    exactly += len(found) == most
        self.assertGreater(exactly, 20)

    def test_the_whole_rank_is_needed(self):
        # HOLDER goes on until deed 1, which is LOOSE, comes at an open door.
        kind = (1, 0, (1,))
        table = kept_paper(DOOR, kind)[1]
        self.assertEqual([rank for position, _, rank in table if position == ("even", 0)], [1])
        self.assertEqual(first_failing(DOOR, kind, HOLDER), (0, 1))

    def test_less_than_the_start_of_a_run_that_fails_fails_not(self):
        for wish, kind, guard in drawn_judged(90, 4):
            found = first_failing(wish, kind, guard)
            if found is not None:
                self.assertIsNone(failing(wish, kind, guard, found[:-1]))
                self.assertEqual(failing(wish, kind, guard, found)[0], len(found))


class HeldAndEarly(unittest.TestCase):
    def tells(self, wish, kind, guard, expected):
        self.assertEqual(held_and_early(wish, kind, guard), expected)
        self.assertEqual(held_and_early(guard=guard, wish=wish, kind=kind), expected)
        self.assertIs(held_and_early(wish, kind, guard).__class__, tuple)

    def test_by_hand(self):
        self.tells(DOOR, (1, 0, ()), HOLDER, (1, 0))
        self.tells(DOOR, (3, 2, ()), HOLDER, (1, 0))
        self.tells(DOOR, (0, 1, ()), SHUTTER, (0, 1))
        self.tells(DOOR, (3, 2, ()), SHUTTER, (0, 1))
        self.tells(EVERYTHING, (3, 2, ()), OPEN_TO_ALL, (0, 0))
        self.tells(EVERYTHING, (0, 0, (0, 1)), OPEN_TO_ALL, (0, 0))

    def test_both(self):
        wish = (1, ((1,), (2,), (3,), (4,), (5,), (0,)), (0,))
        held = (((1, ()),), ((2, ()),), ((3, ()),), ((4, (0,) * 6),), ((5, ()),), ((0, ()),))
        self.tells(wish, (3, 2, ()), held, (3, 2))

    def test_not_kept(self):
        for wish, kind, guard in ((DOOR, FREE, HOLDER), (DOOR, (1, 0, (0,)), HOLDER),
                                  (DOOR, FREE, OPEN_TO_ALL), (EVERYTHING, FREE, CLOSED_TO_ALL),
                                  (MIXED, (3, 2, ()), CLOSED_TO_ALL)):
            for ask in (lambda: held_and_early(wish, kind, guard),
                        lambda: held_and_early(guard=guard, kind=kind, wish=wish)):
                with self.assertRaises(Nothing) as caught:
                    ask()
                self.assertIs(caught.exception.__class__, Nothing)

    def test_counted(self):
        both = set()
        for wish, kind, guard in drawn_judged(91, 12):
            places, failed = told.coming_places(wish, kind, guard)
            if failed:
                with self.assertRaises(Nothing):
                    held_and_early(wish, kind, guard)
                continue
            held = [len(position[2]) for _, position in places if position[0] == "behind"]
            early = [len(position[2]) for _, position in places if position[0] == "ahead"]
            expected = (max(held, default=0), max(early, default=0))
            self.tells(wish, kind, guard, expected)
            both.add(expected)
        self.assertTrue({(0, 0), (1, 0), (0, 1), (2, 0)} <= both, both)


if __name__ == "__main__":
    unittest.main()
