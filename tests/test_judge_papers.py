"""The papers on whether a GUARD keeps a WISH."""

import copy
import itertools
import random
import unittest

import told
from guardkeeps.errors import BadPaper, OutOfPlace
from guardkeeps.judges import check_judge, failing, judge_paper, keeps
from things import (
    ALL_GOOD, CLOSED_TO_ALL, DOOR, HOLDER, MANY_FIGURES, OPEN_TO_ALL, SHUTTER, drawn_judged,
    no_integers, no_numbers, no_tuples)

FREE = (0, 0, ())
HOLD = (1, 0, ())
EVERYTHING = (2, ((0, 0),), (0,))
START = (0, ("even", 0))
TABLE = (START, (1, ("behind", 0, (0,))), (2, ("off", 0)))
KEEPS = ("keeps", TABLE)

# Lets deed 0 out; fails by deed 1.
NO_ONE = (((0, (0,)), (0, ())),)


class Papers(unittest.TestCase):
    def right(self, wish, kind, guard, paper):
        self.assertEqual(check_judge(wish, kind, guard, paper), paper[0])
        self.assertEqual(check_judge(paper=paper, kind=kind, guard=guard, wish=wish), paper[0])

    def wrong(self, part, wish, kind, guard, paper):
        for ask in (lambda: check_judge(wish, kind, guard, paper),
                    lambda: check_judge(paper=paper, guard=guard, kind=kind, wish=wish)):
            with self.assertRaises(BadPaper) as caught:
                ask()
            self.assertIs(caught.exception.__class__, BadPaper)
            self.assertEqual(caught.exception.part, part, paper)


class JudgePaper(Papers):
    def test_by_hand(self):
        self.assertEqual(judge_paper(DOOR, HOLD, HOLDER), KEEPS)
        self.assertEqual(judge_paper(ALL_GOOD, FREE, (((0, (0,)),),)), ("keeps", (START,)))

    def test_each_is_judged_by_its_word(self):
        words = set()
        for wish, kind, guard in drawn_judged(92, 8):
            kept = copy.deepcopy((wish, kind, guard))
            paper = judge_paper(wish, kind, guard)
            self.right(wish, kind, guard, paper)
            self.assertEqual(paper[0] == "keeps", keeps(wish, kind, guard))
            self.assertEqual(paper, judge_paper(*kept))
            self.assertEqual(paper, judge_paper(guard=guard, kind=kind, wish=wish))
            self.assertEqual((wish, kind, guard), kept)
            self.assertIs(paper.__class__, tuple)
            self.assertIs(paper[1].__class__, tuple)
            words.add(paper[0])
        self.assertEqual(words, {"keeps", "fails"})

    def test_each_is_right_word_by_word(self):
        for wish, kind, guard in drawn_judged(93, 5):
            word, what = judge_paper(wish, kind, guard)
            if word == "keeps":
                self.assertTrue(told.is_right_table(wish, kind, guard, what), (wish, kind, guard))
            else:
                self.assertLessEqual(len(what), 400)
                self.assertEqual(told.failing(wish, kind, guard, what)[0], len(what))


class Form(Papers):
    def test_no_tuple(self):
        for paper in (*no_tuples(), list(KEEPS), ["fails", (0,)], "keeps", "fails"):
            self.wrong("form", DOOR, HOLD, HOLDER, paper)
            self.wrong("form", DOOR, FREE, OPEN_TO_ALL, paper)

    def test_a_wrong_number_of_things(self):
        for paper in ((), ("keeps",), ("fails",), (*KEEPS, ()), ("keeps", TABLE, TABLE), TABLE,
                      (KEEPS,), (*KEEPS, *KEEPS), ("fails", (0,), 0), START[:1]):
            self.wrong("form", DOOR, HOLD, HOLDER, paper)

    def test_no_such_word(self):
        for word in (*no_integers(), 0, 1, "kept", "lost", "Keeps", "keeps ", "fail", b"keeps",
                     "keepsfails", ("keeps",), START):
            self.wrong("form", DOOR, HOLD, HOLDER, (word, TABLE))
            self.wrong("form", DOOR, FREE, OPEN_TO_ALL, (word, (0,)))
        self.wrong("form", DOOR, HOLD, HOLDER, KEEPS[::-1])


class Tables(Papers):
    def test_right(self):
        self.right(DOOR, HOLD, HOLDER, KEEPS)
        self.right(DOOR, (3, 2, ()), HOLDER, KEEPS)
        self.right(DOOR, (0, 1, ()), SHUTTER, (
            "keeps", (START, (1, ("ahead", 1, (1,))), (2, ("off", 0)))))
        self.right(EVERYTHING, (0, 0, (0, 1)), OPEN_TO_ALL, ("keeps", (START,)))

    def test_pairs_more_than_come(self):
        # From 0 neither 1 nor 2 comes.
        more = ("keeps", (START, (0, ("even", 1)), (0, ("even", 2))))
        wish = (2, ((0, 0), (1, 0), (2, 2)), (0, 1, 2))
        self.right(wish, FREE, OPEN_TO_ALL, more)
        self.right(wish, FREE, OPEN_TO_ALL, ("keeps", more[1][:2]))
        self.right(wish, FREE, OPEN_TO_ALL, ("keeps", (START, more[1][2])))
        # A memory that never comes, and one that comes, at one more POSITION.
        twice = (*OPEN_TO_ALL, ((1, (0,)), (0, (1,))))
        self.right(wish, FREE, twice, ("keeps", (START,)))
        self.right(wish, FREE, twice, ("keeps", (START, (1, ("even", 0)))))
        self.right(wish, FREE, twice, ("keeps", (START, (0, ("even", 1)), *[
            (1, ("even", state)) for state in range(2)])))
        self.right(wish, FREE, twice, ("keeps", (START, (1, ("even", 1)))))
        self.wrong("keeps", wish, FREE, twice, ("keeps", (START, (1, ("even", 2)))))

    def test_pairs_more_than_come_are_judged_too(self):
        wish = (2, ((0, 0), (2, 0), (2, 2)), (0, 1))
        self.right(wish, FREE, OPEN_TO_ALL, ("keeps", (START,)))
        self.wrong("keeps", wish, FREE, OPEN_TO_ALL, ("keeps", (START, (0, ("even", 1)))))
        self.wrong("keeps", DOOR, HOLD, HOLDER, ("keeps", (START, (0, ("off", 0)), *TABLE[1:])))
        self.wrong("keeps", DOOR, HOLD, HOLDER, ("keeps", (
            START, (1, ("behind", 0, (0,))), (1, ("even", 0)), (2, ("off", 0)))))
        stopping = (((0, ()), (0, ())), ((1, (0,)), (1, (1,))))
        self.wrong("keeps", EVERYTHING, FREE, stopping, ("keeps", (START, (1, ("even", 0)))))
        self.wrong("keeps", EVERYTHING, FREE, stopping[::-1], ("keeps", (START,)))

    def test_no_table(self):
        for thing in (*no_tuples(), (), list(TABLE), dict(TABLE), START):
            self.wrong("keeps", DOOR, HOLD, HOLDER, ("keeps", thing))

    def test_a_pair_left_out(self):
        for at in range(3):
            self.wrong("keeps", DOOR, HOLD, HOLDER, ("keeps", TABLE[:at] + TABLE[at + 1:]))
        self.wrong("keeps", DOOR, HOLD, HOLDER, ("keeps", (START,)))
        # The start left out, where the rest leads to itself.
        wish = (2, ((1, 1), (1, 1)), (0, 1))
        self.right(wish, FREE, OPEN_TO_ALL, ("keeps", (START, (0, ("even", 1)))))
        self.wrong("keeps", wish, FREE, OPEN_TO_ALL, ("keeps", ((0, ("even", 1)),)))

    def test_a_pair_twice(self):
        for at in range(3):
            self.wrong("keeps", DOOR, HOLD, HOLDER, ("keeps", TABLE[:at + 1] + TABLE[at:]))

    def test_not_ascending(self):
        for order in itertools.permutations(TABLE):
            if order != TABLE:
                self.wrong("keeps", DOOR, HOLD, HOLDER, ("keeps", order))

    def test_a_pair_that_is_none(self):
        for at, thing in itertools.product(range(3), (*no_tuples(), (), START[:1])):
            self.wrong("keeps", DOOR, HOLD, HOLDER, with_pair(at, thing))
        for at, pair in enumerate(TABLE):
            for thing in (list(pair), (*pair, ()), pair[::-1], (pair,), pair[1]):
                self.wrong("keeps", DOOR, HOLD, HOLDER, with_pair(at, thing))

    def test_a_memory_that_is_none(self):
        for at, thing in itertools.product(range(3), no_numbers(3)):
            self.wrong("keeps", DOOR, HOLD, HOLDER, with_pair(at, (thing, TABLE[at][1])))
        self.wrong("keeps", EVERYTHING, FREE, OPEN_TO_ALL, ("keeps", ((False, ("even", 0)),)))
        self.wrong("keeps", EVERYTHING, FREE, OPEN_TO_ALL, ("keeps", (START, (1, ("even", 0)))))

    def test_a_position_that_is_none(self):
        wrong = (*no_tuples(), (), ("even",), ("even", 1), ("off", 1), ("even", False), ["even", 0],
                 ("off", False), ("even", 0.0), ("behind", 0, ()), ("behind", 0, (False,)),
                 ("behind", 0, [0]), ("behind", 0, (0, 0)), ("ahead", 1, (1,)), ("Even", 0),
                 ("even", 0, ()), ("even", MANY_FIGURES))
        for at, position in itertools.product(range(3), wrong):
            self.wrong("keeps", DOOR, HOLD, HOLDER, with_pair(at, (TABLE[at][0], position)))
        for position in wrong:
            self.wrong("keeps", EVERYTHING, FREE, OPEN_TO_ALL, ("keeps", (START, (0, position))))

    def test_another_memory_or_position(self):
        places = [(memory, position) for memory in range(3) for _, position in TABLE]
        for at, place in itertools.product(range(3), places):
            if place != TABLE[at]:
                self.wrong("keeps", DOOR, HOLD, HOLDER, with_pair(at, place))

    def test_of_another_guard_or_kind(self):
        self.wrong("keeps", DOOR, FREE, HOLDER, KEEPS)
        self.wrong("keeps", DOOR, (0, 2, ()), HOLDER, KEEPS)
        self.wrong("keeps", DOOR, (1, 0, (1,)), HOLDER, KEEPS)
        self.wrong("keeps", DOOR, (1, 1, ()), SHUTTER, KEEPS)
        self.wrong("keeps", DOOR, HOLD, OPEN_TO_ALL, KEEPS)
        self.wrong("keeps", EVERYTHING, HOLD, HOLDER, KEEPS)


class Runs(Papers):
    def test_right(self):
        self.right(DOOR, FREE, OPEN_TO_ALL, ("fails", (0,)))
        self.right(DOOR, FREE, OPEN_TO_ALL, ("fails", (1, 1, 0)))
        self.right(DOOR, (1, 0, (1,)), HOLDER, ("fails", (0, 1)))
        # Any one that fails is right, not the first one alone.
        self.right(EVERYTHING, FREE, CLOSED_TO_ALL, ("fails", (1,)))
        self.right(EVERYTHING, FREE, CLOSED_TO_ALL, ("fails", (0,)))

    def test_up_to_400_deeds(self):
        for many in (1, 2, 40, 399, 400):
            self.right(EVERYTHING, FREE, NO_ONE, ("fails", (0,) * (many - 1) + (1,)))
        for many in (401, 402, 1000):
            run = (0,) * (many - 1) + (1,)
            self.wrong("fails", EVERYTHING, FREE, NO_ONE, ("fails", run))
            with self.assertRaises(OutOfPlace):
                failing(EVERYTHING, FREE, NO_ONE, run)

    def test_a_shorter_beginning_fails(self):
        for run in ((1, 0), (1, 1), (0, 1, 0), (1,) * 400, (0,) * 398 + (1, 1)):
            self.wrong("fails", EVERYTHING, FREE, NO_ONE, ("fails", run))

    def test_none_fails(self):
        for run in ((), (0,), (0, 0), (0,) * 400):
            self.wrong("fails", EVERYTHING, FREE, NO_ONE, ("fails", run))
        for run in told.lots(2, 5):
            self.wrong("fails", DOOR, HOLD, HOLDER, ("fails", run))

    def test_no_run(self):
        for thing in (*no_tuples(), [1], "1", KEEPS, START, ((1,),), (1, ())):
            self.wrong("fails", EVERYTHING, FREE, NO_ONE, ("fails", thing))
        for thing in no_numbers(2):
            for run in ((thing,), (thing, 1), (0, thing), (1, thing), (0, 0, thing)):
                self.wrong("fails", EVERYTHING, FREE, NO_ONE, ("fails", run))

    def test_the_other_word(self):
        self.wrong("fails", DOOR, HOLD, HOLDER, ("fails", TABLE))
        self.wrong("keeps", DOOR, FREE, OPEN_TO_ALL, ("keeps", (0,)))


class OneThingOtherwise(Papers):
    """Drawn papers with one thing otherwise, judged as [9] says word by word."""

    def judged(self, wish, kind, guard, paper):
        word, what = paper
        if word == "fails":
            fault = told.failing(wish, kind, guard, what)
            is_right = fault is not None and fault[0] == len(what)
        else:
            is_right = told.is_right_table(wish, kind, guard, what)
        if is_right:
            self.right(wish, kind, guard, paper)
        else:
            self.wrong(word, wish, kind, guard, paper)
        self.found[word, is_right] = self.found.get((word, is_right), 0) + 1

    def test_drawn(self):
        self.found = {}
        draw = random.Random(94)
        for wish, kind, guard in drawn_judged(94, 4):
            paper = judge_paper(wish, kind, guard)
            word, what = paper
            for other in (self.runs if word == "fails" else self.tables)(draw, wish, guard, what):
                self.judged(wish, kind, guard, (word, other))
        self.assertGreater(min(self.found.values()), 50, self.found)
        self.assertEqual(len(self.found), 4)

    def runs(self, draw, wish, guard, run):
        others = [(*run[:at], deed, *run[at + 1:])
                  for at in range(len(run)) for deed in range(wish[0])]
        longer = [(*run, draw.randrange(wish[0])), (draw.randrange(wish[0]), *run)]
        return [*others, *longer, run[1:], run[:-1], (), (0,) * 400]

    def tables(self, draw, wish, guard, table):
        others = []
        for at, (memory, position) in enumerate(table[:6]):
            others.append(table[:at] + table[at + 1:])
            others.append(table[:at + 1] + table[at:])
            others.append((table[at], *table[:at], *table[at + 1:]))
            more = {*table, (draw.randrange(len(guard)), position)}
            others.append(tuple(sorted(more)))
            others.append(tuple(sorted({*table, (memory, draw.choice(table)[1])})))
            others.append(tuple(sorted({*table[:at], *table[at + 1:], (memory, ("off", 0))})))
        return others


def with_pair(at, pair):
    """The paper "keeps" with another thing in the place of one pair."""
    return ("keeps", (*TABLE[:at], pair, *TABLE[at + 1:]))


if __name__ == "__main__":
    unittest.main()
