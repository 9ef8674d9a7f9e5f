"""Whether a WISH can be kept, and the papers on it."""

import copy
import itertools
import unittest

import told
from guardkeeps.errors import BadPaper
from guardkeeps.games import can_be_kept, check_kept, kept_paper
from things import (
    ALL_GOOD, DOOR, MANY_FIGURES, MIXED, ROUND, drawn_games, drawn_wishes, no_integers, no_numbers,
    no_tuples)

FREE = (0, 0, ())
START = ("even", 0)
OFF = (("off", 0), ((), ()))

# A door that is opened is held back.
HELD = ("kept", (
    (("behind", 0, (0,)), ((), (0, 1))),
    (START, ((), (1,))),
    OFF,
))

# A door that is opened is shut by the guard at once.
SHUT = ("kept", (
    (("ahead", 1, (1,)), ((), ())),
    (START, ((0, 1), (1,))),
    OFF,
))

# Shutting the door cannot be stopped, so nothing can be done about an open one.
STUCK = ("lost", (
    (("ahead", 1, (1,)), 1, 0),
    (("behind", 0, (0,)), 1, 0),
    (START, 0, 1),
))


def start_rank(paper):
    return [rank for position, _, rank in paper[1] if position == START][0]


class CanBeKept(unittest.TestCase):
    def kept(self, wish, *kinds):
        for kind in kinds:
            self.assertIs(can_be_kept(wish, kind), True, (wish, kind))
            self.assertIs(can_be_kept(kind=kind, wish=wish), True)

    def lost(self, wish, *kinds):
        for kind in kinds:
            self.assertIs(can_be_kept(wish, kind), False, (wish, kind))
            self.assertIs(can_be_kept(kind=kind, wish=wish), False)

    def test_all_good(self):
        for hold, ahead in itertools.product(range(4), range(3)):
            self.kept(ALL_GOOD, (hold, ahead, ()), (hold, ahead, (0,)))

    def test_the_door(self):
        self.lost(DOOR, FREE, (0, 0, (1,)), (3, 0, (0,)), (3, 2, (1,)), (3, 0, (0, 1)),
                  (3, 2, (0, 1)))
        self.kept(DOOR, (1, 0, ()), (0, 1, ()), (3, 2, ()), (0, 1, (0,)), (3, 2, (0,)))

    def test_going_round(self):
        for hold, ahead in itertools.product(range(4), range(3)):
            self.assertIs(can_be_kept(ROUND, (hold, ahead, ())), False)
        # With deed 1 alone it takes at most two deeds to be GOOD again.
        wish = (1, ((1,), (2,), (0,)), (0,))
        self.lost(wish, FREE, (1, 0, ()), (0, 1, ()), (0, 2, (0,)))
        self.kept(wish, (2, 0, ()), (1, 2, ()), (0, 2, ()), (1, 1, ()))

    def test_the_loose_deed_alone_is_doomed(self):
        wish = (2, ((0, 1), (1, 1)), (0,))
        self.kept(wish, FREE, (0, 0, (0,)))
        self.lost(wish, (0, 0, (1,)), (3, 2, (1,)), (3, 2, (0, 1)))

    def test_doomed_runs_with_a_loose_deed(self):
        # Deed 1 is DOOMED at 1, but behind the OUTPUT of the state 0 it is GOOD.
        wish = (3, ((1, 0, 0), (1, 2, 0), (2, 2, 2)), (0,))
        self.lost(wish, (3, 0, ()), (3, 2, (0,)))
        # What is LOOSE has to be made GOOD behind a DOOMED RUN, again and again.
        wish = (3, ((1, 2, 0), (3, 3, 0), (3, 3, 0), (3, 3, 3)), (0,))
        self.kept(wish, (0, 1, (1,)), (1, 1, (1,)), (0, 1, (0, 1)))
        self.lost(wish, (3, 0, (1,)))

    def test_by_0_0_exactly_if_all_beginnings_are_good(self):
        for wish in drawn_wishes(31, 8):
            seen, new = set(), {0}
            while new:
                seen |= new
                new = {behind for state in new for behind in wish[1][state]} - seen
            kept = all(not told.is_live(wish, state, ()) or state in wish[2] for state in seen)
            self.assertIs(can_be_kept(wish, FREE), kept, wish)

    def test_what_can_be_kept_can_be_by_more(self):
        for wish in drawn_wishes(32, 2):
            sets = [loose for size in range(wish[0] + 1)
                    for loose in itertools.combinations(range(wish[0]), size)]
            kept = {kind: can_be_kept(wish, kind)
                    for kind in itertools.product(range(4), range(3), sets)}
            for (hold, ahead, loose), told_so in kept.items():
                if told_so:
                    self.assertTrue(kept.get((hold + 1, ahead, loose), True))
                    self.assertTrue(kept.get((hold, ahead + 1, loose), True))
                    for deed in loose:
                        fewer = tuple(each for each in loose if each != deed)
                        self.assertTrue(kept[hold, ahead, fewer])

    def test_all_ways_of_a_guard_tried(self):
        for wish, kind in drawn_games(33, 4):
            if wish[0] < 4 and kind[0] + kind[1] < 4:
                go_on = told.can_go_on(wish, kind, 4 if wish[0] < 3 else 3)
                if can_be_kept(wish, kind):
                    self.assertTrue(go_on, (wish, kind))
                elif start_rank(kept_paper(wish, kind)) < (4 if wish[0] < 3 else 3):
                    self.assertFalse(go_on, (wish, kind))

    def test_afterwards_the_same(self):
        for wish, kind in drawn_games(34, 1):
            kept = copy.deepcopy((wish, kind))
            self.assertIs(can_be_kept(wish, kind), can_be_kept(*kept))
            self.assertEqual((wish, kind), kept)


class KeptPaper(unittest.TestCase):
    def test_each_is_judged_by_its_word(self):
        words = set()
        for wish, kind in [*drawn_games(41, 25), (DOOR, (1, 0, ())), (MIXED, (3, 2, ()))]:
            paper = kept_paper(wish, kind)
            self.assertEqual(check_kept(wish, kind, paper), paper[0])
            self.assertEqual(paper[0] == "kept", can_be_kept(wish, kind))
            words.add(paper[0])
        self.assertEqual(words, {"kept", "lost"})

    def test_each_is_right_word_by_word(self):
        for wish, kind in drawn_games(42, 2):
            paper = kept_paper(wish, kind)
            self.assertTrue(told.is_right_paper(wish, kind, paper), (wish, kind, paper))

    def test_a_guard_by_the_table_keeps_the_wish(self):
        for wish, kind in drawn_games(43, 8):
            word, table = kept_paper(wish, kind)
            if word == "kept":
                shown_at = dict(table)
                self.assertTrue(told.is_kept_by(
                    wish, kind, lambda position, deed: shown_at[position][deed],
                    {1: 12, 2: 6, 3: 4, 4: 3}[wish[0]]), (wish, kind))

    def test_a_program_by_the_table_defeats_any_guard(self):
        for wish, kind in drawn_games(44, 8):
            paper = kept_paper(wish, kind)
            if paper[0] == "lost" and wish[0] < 4:
                deeds = {position: deed for position, deed, _ in paper[1]}
                self.assertTrue(told.is_defeated_by(
                    wish, kind, deeds.get, start_rank(paper) + 1), (wish, kind))

    def test_the_rank_of_the_start_is_the_least_one(self):
        for wish, kind in drawn_games(44, 8):
            paper = kept_paper(wish, kind)
            if paper[0] == "lost" and wish[0] < 4 and start_rank(paper) < 4:
                self.assertTrue(told.can_go_on(wish, kind, start_rank(paper)), (wish, kind))

    def test_kinds_of_results(self):
        for wish, kind in drawn_games(45, 1):
            paper = kept_paper(wish, kind)
            self.assertIs(paper.__class__, tuple)
            self.assertEqual(len(paper), 2)
            self.assertIs(paper[1].__class__, tuple)
            for row in paper[1]:
                self.assertIs(row.__class__, tuple)
                self.assertEqual(len(row), 2 if paper[0] == "kept" else 3)

    def test_equal_calls(self):
        for wish, kind in drawn_games(46, 2):
            kept = copy.deepcopy((wish, kind))
            paper = kept_paper(wish, kind)
            self.assertEqual(paper, kept_paper(*kept))
            self.assertEqual(paper, kept_paper(kind=kind, wish=wish))
            self.assertEqual((wish, kind), kept)


class Papers(unittest.TestCase):
    def right(self, wish, kind, paper):
        self.assertEqual(check_kept(wish, kind, paper), paper[0])
        self.assertEqual(check_kept(paper=paper, kind=kind, wish=wish), paper[0])

    def wrong(self, part, wish, kind, paper):
        for ask in (lambda: check_kept(wish, kind, paper),
                    lambda: check_kept(paper=paper, kind=kind, wish=wish)):
            with self.assertRaises(BadPaper) as caught:
                ask()
            self.assertEqual(caught.exception.part, part)
            self.assertIs(caught.exception.__class__, BadPaper)


class RightPapers(Papers):
    def test_by_hand(self):
        self.right(DOOR, (1, 0, ()), HELD)
        self.right(DOOR, (0, 1, ()), SHUT)
        self.right(DOOR, (1, 1, (1,)), STUCK)
        self.right(DOOR, FREE, ("lost", ((START, 0, 0),)))
        self.right(ALL_GOOD, FREE, ("kept", ((START, ((0,),)),)))

    def test_by_a_greater_kind(self):
        for hold, ahead in itertools.product(range(1, 4), range(3)):
            self.right(DOOR, (hold, ahead, ()), HELD)

    def test_by_a_lesser_kind_more_positions_are_none(self):
        self.wrong("kept", DOOR, (0, 1, ()), HELD)
        self.wrong("kept", DOOR, (1, 0, ()), SHUT)
        self.wrong("lost", DOOR, (1, 0, (1,)), STUCK)
        self.wrong("lost", DOOR, (0, 1, (1,)), STUCK)

    def test_more_positions_than_come(self):
        kind = (1, 1, ())
        both = ("kept", (SHUT[1][0], *HELD[1]))
        self.right(DOOR, kind, both)
        self.right(DOOR, kind, ("kept", (SHUT[1][0], HELD[1][0], SHUT[1][1], OFF)))
        self.right(DOOR, (1, 0, (0,)), ("lost", ((START, 0, 0), (("off", 0), 0, 0))))
        self.right(DOOR, (1, 0, (1,)), ("lost", ((("behind", 0, (0,)), 1, 2), (START, 0, 3))))

    def test_positions_that_never_come(self):
        self.right(ALL_GOOD, FREE, ("kept", ((START, ((0,),)), (("off", 0), ((),)))))
        wish = (1, ((0,), (2,), (1,)), (0, 1))
        self.right(wish, (0, 1, ()), ("kept", (
            (("ahead", 2, (0,)), ((),)), (START, ((0,),)), (("even", 1), ((0, 0),)))))
        self.right(wish, (1, 0, ()), ("kept", (
            (("behind", 1, (0,)), ((0, 0),)), (START, ((0,),)), (("even", 1), ((),)))))
        self.wrong("kept", wish, (0, 0, ()), ("kept", (
            (START, ((0,),)), (("even", 1), ((0, 0),)))))

    def test_positions_that_never_come_are_judged_too(self):
        self.wrong("kept", ALL_GOOD, FREE, ("kept", ((START, ((0,),)), (("off", 0), ((0,),)))))
        self.wrong("lost", DOOR, FREE, ("lost", ((START, 0, 0), (("off", 0), 0, 0))))

    def test_greater_ranks(self):
        for rank in (0, 1, 2, 7, 10 ** 30, MANY_FIGURES):
            self.right(DOOR, FREE, ("lost", ((START, 0, rank),)))
        for low, mid, high in ((0, 1, 2), (5, 3, 6), (3, 5, MANY_FIGURES), (0, 0, 1),
                               (10 ** 9, 8, 10 ** 9 + 1)):
            self.right(DOOR, (1, 1, (1,)), (
                "lost", (STUCK[1][0][:2] + (low,), STUCK[1][1][:2] + (mid,), (START, 0, high))))

    def test_another_deed(self):
        wish = (2, ((1, 1), (1, 0)), (0,))
        self.right(wish, FREE, ("lost", ((START, 0, 0),)))
        self.right(wish, FREE, ("lost", ((START, 1, 0),)))

    def test_any_answer_that_leads_into_the_table(self):
        kind = (0, 2, ())
        wish = (1, ((1,), (0,)), (0,))
        self.right(wish, kind, ("kept", ((("ahead", 1, (0,)), ((),)), (START, ((0, 0),)))))


class Form(Papers):
    def test_no_tuple(self):
        for paper in (*no_tuples(), list(HELD), list(STUCK), "kept", ["kept", ()]):
            self.wrong("form", DOOR, (1, 0, ()), paper)

    def test_a_wrong_number_of_things(self):
        for paper in ((), ("kept",), ("lost",), (*HELD, ()), (*STUCK, ()), (*HELD, *HELD),
                      ("kept", (), ()), HELD[1], STUCK[1], (HELD,)):
            self.wrong("form", DOOR, (1, 1, ()), paper)

    def test_no_such_word(self):
        for word in (*no_integers(), 0, 1, "keeps", "fails", "Kept", "kept ", "los", b"kept",
                     "keptlost", ("kept",)):
            self.wrong("form", DOOR, (1, 0, ()), (word, HELD[1]))
        self.wrong("form", DOOR, (1, 0, ()), HELD[::-1])


class Words(Papers):
    """Papers of the right form that are not as told, each with its word."""

    def test_no_table(self):
        for word in ("kept", "lost"):
            for table in (*no_tuples(), (), list(HELD[1]), list(STUCK[1])):
                self.wrong(word, DOOR, (1, 1, (1,)), (word, table))
                self.wrong(word, DOOR, (1, 0, ()), (word, table))

    def test_the_other_word(self):
        self.wrong("lost", DOOR, (1, 0, ()), ("lost", HELD[1]))
        self.wrong("kept", DOOR, (1, 1, (1,)), ("kept", STUCK[1]))

    def test_the_table_of_another_game(self):
        self.wrong("kept", DOOR, (1, 0, (1,)), HELD)
        self.wrong("kept", DOOR, (1, 0, (0,)), HELD)
        self.wrong("lost", DOOR, (1, 1, ()), STUCK)
        self.wrong("kept", ROUND, (1, 0, ()), HELD)
        self.wrong("lost", ALL_GOOD, (1, 1, ()), STUCK)

    def test_a_row_that_is_none(self):
        for at, row in itertools.product(range(3), (*no_tuples(), (), (START,), START)):
            self.wrong("kept", DOOR, (1, 0, ()), with_row(HELD, at, row))
            self.wrong("lost", DOOR, (1, 1, (1,)), with_row(STUCK, at, row))
        for at in range(3):
            for paper, kind in ((HELD, (1, 0, ())), (STUCK, (1, 1, (1,)))):
                row = paper[1][at]
                for wrong in (list(row), (*row, ()), (*row, 0), row[:-1], (row,), row[::-1]):
                    self.wrong(paper[0], DOOR, kind, with_row(paper, at, wrong))

    def test_what_is_no_position(self):
        wrong = (*no_tuples(), (), ("even",), ("even", 1), ("off", 1), ("even", False),
                 ("off", False), ("even", 0.0), ("behind", 0, ()), ("behind", 0, (False,)),
                 ("behind", 0, [0]), ("ahead", True, (1,)), ("ahead", 1, (True,)), ["even", 0],
                 ("Even", 0), ("even", 0, ()))
        for at, position in itertools.product(range(3), wrong):
            self.wrong("kept", DOOR, (1, 0, ()), with_thing(HELD, at, 0, position))
            self.wrong("kept", DOOR, (0, 1, ()), with_thing(SHUT, at, 0, position))
            self.wrong("lost", DOOR, (1, 1, (1,)), with_thing(STUCK, at, 0, position))

    def test_what_are_no_answers(self):
        for at in range(3):
            told_so = HELD[1][at][1]
            wrong = (*no_tuples(), (), told_so[:1], (*told_so, ()), list(told_so),
                     (*told_so, *told_so), told_so[::-1] if at < 2 else (told_so,))
            for answers in wrong:
                self.wrong("kept", DOOR, (1, 0, ()), with_thing(HELD, at, 1, answers))

    def test_an_answer_that_is_none(self):
        for at, deed in itertools.product(range(3), range(2)):
            right = HELD[1][at][1][deed]
            for shown in (*no_tuples(), (0, 1, 0, 1), (1, 1), (2,), (-1,), (0,), (True,), (0, True),
                          (0.0, 1), ((),), list(right), (False, 1)):
                answers = list(HELD[1][at][1])
                answers[deed] = shown
                self.wrong("kept", DOOR, (1, 0, ()), with_thing(HELD, at, 1, tuple(answers)))

    def test_a_deed_that_is_none(self):
        for at, deed in itertools.product(range(3), no_numbers(2)):
            self.wrong("lost", DOOR, (1, 1, (1,)), with_thing(STUCK, at, 1, deed))

    def test_a_deed_by_which_nothing_is_lost(self):
        for at in range(3):
            self.wrong("lost", DOOR, (1, 1, (1,)), with_thing(STUCK, at, 1, 1 - STUCK[1][at][1]))

    def test_a_rank_that_is_none(self):
        for at, rank in itertools.product(range(3), (*no_integers(), -1, -2, -MANY_FIGURES)):
            self.wrong("lost", DOOR, (1, 1, (1,)), with_thing(STUCK, at, 2, rank))
        for rank in (*no_integers(), -1):
            self.wrong("lost", DOOR, FREE, ("lost", ((START, 0, rank),)))

    def test_a_rank_that_is_not_less(self):
        for low, mid, high in ((0, 0, 0), (1, 0, 1), (0, 1, 1), (2, 0, 1), (0, 2, 1), (1, 1, 1),
                               (MANY_FIGURES, 0, MANY_FIGURES)):
            self.wrong("lost", DOOR, (1, 1, (1,)), (
                "lost", (STUCK[1][0][:2] + (low,), STUCK[1][1][:2] + (mid,), (START, 0, high))))

    def test_a_position_left_out(self):
        for paper, kind in ((HELD, (1, 0, ())), (SHUT, (0, 1, ())), (STUCK, (1, 1, (1,)))):
            for at in range(3):
                fewer = (*paper[1][:at], *paper[1][at + 1:])
                self.wrong(paper[0], DOOR, kind, (paper[0], fewer))

    def test_the_start_left_out(self):
        self.wrong("kept", DOOR, (1, 0, ()), ("kept", (OFF,)))
        self.wrong("lost", DOOR, (1, 0, (0,)), ("lost", ((("off", 0), 0, 0),)))

    def test_a_position_twice(self):
        for paper, kind in ((HELD, (1, 0, ())), (SHUT, (0, 1, ())), (STUCK, (1, 1, (1,)))):
            for at in range(3):
                more = (*paper[1][:at + 1], *paper[1][at:])
                self.wrong(paper[0], DOOR, kind, (paper[0], more))

    def test_a_position_twice_but_ascending(self):
        twice = ((START, ((), (1,))), (START, ((0, 1), (1,))))
        for more in (twice[:1], twice[1:]):
            self.right(DOOR, (1, 1, ()), ("kept", (SHUT[1][0], HELD[1][0], *more, OFF)))
        self.wrong("kept", DOOR, (1, 1, ()), ("kept", (SHUT[1][0], HELD[1][0], *twice, OFF)))
        for rank in (1, 2):
            self.wrong("lost", DOOR, FREE, ("lost", ((START, 0, 0), (START, 0, rank))))

    def test_not_ascending(self):
        for paper, kind in ((HELD, (1, 0, ())), (SHUT, (0, 1, ())), (STUCK, (1, 1, (1,)))):
            for order in itertools.permutations(paper[1]):
                if order != paper[1]:
                    self.wrong(paper[0], DOOR, kind, (paper[0], order))

    def test_a_paper_is_the_same_afterwards(self):
        for make in (lambda: ["kept", [0]], lambda: ("kept", [START, [1]]),
                     lambda: ("lost", ([START, 0, 0],)), lambda: ("kept", ((START, [[], [1]]),))):
            paper = make()
            with self.assertRaises(BadPaper):
                check_kept(DOOR, FREE, paper)
            self.assertEqual(paper, make())


class OneThingOtherwise(Papers):
    """Drawn papers with one thing otherwise, judged as [6] says word by word."""

    def judged(self, wish, kind, paper):
        if told.is_right_paper(wish, kind, paper):
            self.right(wish, kind, paper)
            self.still_right += 1
        else:
            self.wrong(paper[0], wish, kind, paper)

    def test_drawn(self):
        self.still_right = 0
        for wish, kind in drawn_games(47, 3):
            paper = kept_paper(wish, kind)
            word, table = paper
            for at, row in enumerate(table[:6]):
                self.judged(wish, kind, (word, (*table[:at], *table[at + 1:])))
                self.judged(wish, kind, (word, (*table[:at], row, *table[at:])))
                self.judged(wish, kind, (word, (row, *table[:at], *table[at + 1:])))
                for other in self.rows_like(wish, row):
                    self.judged(wish, kind, with_row(paper, at, other))
        self.assertGreater(self.still_right, 100)

    def rows_like(self, wish, row):
        if len(row) == 3:
            position, deed, rank = row
            others = [(position, other, rank) for other in range(wish[0])]
            return others + [(position, deed, other) for other in range(rank + 3)]
        position, answers = row
        return [(position, (*answers[:deed], shown, *answers[deed + 1:]))
                for deed in range(wish[0])
                for shown in ((), (deed,), (0,), (deed, 0), (0, deed), (deed, deed, 0))]


def with_row(paper, at, row):
    """A paper with another row in the place of one."""
    return (paper[0], (*paper[1][:at], row, *paper[1][at + 1:]))


def with_thing(paper, at, place, thing):
    """A paper with another thing in one place of one row."""
    row = paper[1][at]
    return with_row(paper, at, (*row[:place], thing, *row[place + 1:]))


if __name__ == "__main__":
    unittest.main()
