"""FILMS of what was seen, and whether they fit a WISH and a KIND."""

import copy
import itertools
import random
import unittest

import told
from guardkeeps.errors import OutOfPlace
from guardkeeps.fellows import guard_of
from guardkeeps.films import do_fit, first_unfit
from guardkeeps.games import answers, can_be_kept, kept_paper
from things import (
    ALL_GOOD, CLOSED_TO_ALL, DOOR, HOLDER, MIXED, OPEN_TO_ALL, SHUTTER, drawn_games, drawn_guard,
    film_of, no_tuples, wrong_films)

FREE = (0, 0, ())
BOTH = (1, 1, ())
EVERYTHING = (2, ((0, 0),), (0,))
HELD = ((0, 1, 1, 0), ((), (0, 1), (1,), ()))
SHUT = ((0, 1, 1, 0), ((0, 1), (), (1,), (0, 1)))


def drawn_films(draw, wish, kind):
    """FILMS of one right guard, if there is one, often with one thing otherwise."""
    deeds = wish[0]
    guard = drawn_guard(draw, deeds)
    paper = kept_paper(wish, kind)
    if paper[0] == "kept" and len(paper[1]) <= 8:
        guard = guard_of(wish, kind, paper)
    films = []
    for _ in range(draw.randrange(1, 5)):
        run = tuple(draw.randrange(deeds) for _ in range(draw.randrange(7)))
        films.append(film_of(guard, run))
    if draw.random() < 0.6:
        at = draw.randrange(len(films))
        run, shown_at = films[at]
        if run:
            many = draw.randrange(len(run))
            shown = draw.choice(((), run[many:many + 1], run[:3], (0,), (deeds - 1, 0)))
            films[at] = (run, (*shown_at[:many], shown, *shown_at[many + 1:]))
    return tuple(films)


class DoFit(unittest.TestCase):
    def fit(self, wish, kind, *films):
        self.assertIs(do_fit(wish, kind, films), True, films)
        self.assertIsNone(first_unfit(wish, kind, films), films)

    def unfit(self, wish, kind, where, *films):
        self.assertIs(do_fit(wish, kind, films), False, films)
        self.assertIs(do_fit(films=films, kind=kind, wish=wish), False)
        found = first_unfit(wish, kind, films)
        self.assertEqual(found, where)
        self.assertIs(found.__class__, tuple)
        self.assertEqual(first_unfit(films=films, kind=kind, wish=wish), where)

    def test_by_hand(self):
        self.fit(DOOR, (1, 0, ()), HELD)
        self.fit(DOOR, (0, 1, ()), SHUT)
        self.fit(DOOR, (3, 2, ()), HELD)
        self.unfit(DOOR, (1, 0, ()), (0, 1), SHUT)
        self.unfit(DOOR, (0, 1, ()), (0, 1), HELD)
        self.fit(DOOR, (1, 0, ()), film_of(HOLDER, (0, 0, 1)), film_of(HOLDER, (1, 1, 0)))
        self.fit(EVERYTHING, FREE, film_of(OPEN_TO_ALL, (0, 1, 1)))
        self.unfit(EVERYTHING, FREE, (0, 1), film_of(CLOSED_TO_ALL, (0, 1, 1)))

    def test_two_guards(self):
        # Each of them fits alone, but at the same deed they tell two things.
        self.fit(DOOR, BOTH, HELD)
        self.fit(DOOR, BOTH, SHUT)
        self.unfit(DOOR, BOTH, (1, 1), HELD, SHUT)
        self.unfit(DOOR, BOTH, (1, 1), SHUT, HELD)
        # A guard may do so at first and otherwise later.
        self.fit(DOOR, BOTH, HELD, ((1, 0), ((1,), (0, 1))))
        self.fit(DOOR, BOTH, ((0, 1, 0, 1), ((), (0, 1), (0, 1), ())))

    def test_no_film(self):
        for wish, kind in [*drawn_games(101, 4), (DOOR, FREE), (DOOR, BOTH)]:
            self.assertIs(do_fit(wish, kind, ()), can_be_kept(wish, kind))
            self.assertIsNone(first_unfit(wish, kind, ()))

    def test_what_cannot_be_kept(self):
        for films in ((((), ()),), (HELD,), (HELD, SHUT), (((1,), ((1,),)),), (HELD,) * 20):
            self.unfit(DOOR, FREE, (0, 0), *films)
            self.unfit(DOOR, (3, 2, (0, 1)), (0, 0), *films)
            self.unfit(MIXED, FREE, (0, 0), *films)

    def test_films_without_deeds(self):
        empty = ((), ())
        self.fit(DOOR, BOTH, empty)
        self.fit(DOOR, BOTH, *[empty] * 20)
        self.fit(DOOR, BOTH, empty, HELD, empty)
        self.unfit(DOOR, BOTH, (2, 1), empty, HELD, SHUT, empty)

    def test_the_same_film_twice(self):
        self.fit(DOOR, BOTH, HELD, HELD)
        self.fit(DOOR, BOTH, *[SHUT] * 20)
        self.unfit(DOOR, BOTH, (19, 1), *[SHUT] * 19, HELD)

    def test_cut_short(self):
        run, shown = HELD
        cut = [(run[:many], shown[:many]) for many in range(len(run) + 1)]
        self.fit(DOOR, BOTH, *cut)
        self.fit(DOOR, BOTH, *reversed(cut))
        self.unfit(DOOR, BOTH, (5, 1), *cut, SHUT)
        self.fit(DOOR, BOTH, cut[0], SHUT)

    def test_begin_alike_and_tell_two_things(self):
        first = ((0, 1, 0), ((), (0, 1), ()))
        for deed in (0, 1):
            self.fit(DOOR, BOTH, first, ((0, 1, 1, deed), ((), (0, 1), (1,), ((), (1,))[deed])))
        self.unfit(DOOR, BOTH, (1, 3), first, ((0, 1, 0, 1), ((), (0, 1), (0, 1), ())))
        self.unfit(DOOR, BOTH, (1, 3), ((0, 1, 0, 1), ((), (0, 1), (0, 1), ())), first)
        # The same deeds behind another beginning are told by themselves.
        self.fit(DOOR, BOTH, first, ((1, 0, 1, 0), ((1,), (0, 1), (), (0, 1))))

    def test_one_thing_otherwise(self):
        run, shown = HELD
        for at, other in ((0, (0,)), (1, (1,)), (2, ()), (3, (0,))):
            film = (run, (*shown[:at], other, *shown[at + 1:]))
            self.unfit(DOOR, (1, 0, ()), (0, at + 1), film)
            self.unfit(DOOR, (1, 0, ()), (1, at + 1), HELD, film)
            self.unfit(DOOR, (1, 0, ()), (0, at + 1), film, HELD)

    def test_an_answer_that_leads_where_no_guard_can_go_on(self):
        # Whichever deed is shown ahead, the program may take the other one.
        wish = (2, ((1, 0), (0, 0)), (0,))
        self.assertEqual(answers(wish, BOTH, ("even", 0), 0), ((), (0, 0), (0, 1)))
        self.fit(wish, BOTH, ((0,), ((),)))
        for shown in ((0, 0), (0, 1)):
            self.unfit(wish, BOTH, (0, 1), ((0,), (shown,)))
            self.unfit(wish, BOTH, (1, 3), ((0, 0), ((), (0, 0))), ((1, 1, 0), ((1,), (1,), shown)))

    def test_all_first_answers(self):
        self.led_out = False
        for wish, kind in drawn_games(102, 40):
            if wish[0] > 2:
                continue
            last = told.lasting(wish, kind)
            if ("even", 0) in last:
                for deed in range(wish[0]):
                    for shown, behind in told.answers(wish, kind, ("even", 0), deed):
                        film = ((deed,), (shown,))
                        if behind in last:
                            self.fit(wish, kind, film)
                        else:
                            self.unfit(wish, kind, (0, 1), film)
                            self.led_out = True
        self.assertTrue(self.led_out)

    def test_forty_deeds_and_twenty_films(self):
        run = (0, 1) * 20
        self.fit(DOOR, (1, 0, ()), *[film_of(HOLDER, run)] * 20)
        twenty = [film_of(HOLDER, (1,) * many + (0, 1) * ((40 - many) // 2)) for many in range(20)]
        self.fit(DOOR, (1, 0, ()), *twenty)
        late = (run, (*film_of(HOLDER, run)[1][:39], ()))
        self.unfit(DOOR, (1, 0, ()), (19, 40), *twenty[:19], late)
        six = (1, ((1,), (2,), (3,), (4,), (5,), (0,)), (0,))
        self.fit(six, (3, 2, ()), ((0,) * 40, (((),) * 3 + ((0,) * 6,) + ((),) * 2) * 6
                                   + ((),) * 3 + ((0,) * 6,)))

    def test_more_than_these_are_none(self):
        for films in ([((), ())] * 21, [((0,) * 41, ((0,),) * 41)], [HELD] * 21,
                      [((0,), ((0,) * 7,))]):
            for call in (do_fit, first_unfit):
                with self.assertRaises(OutOfPlace):
                    call(EVERYTHING, FREE, tuple(films))

    def test_no_films(self):
        for films in (*no_tuples(), *wrong_films()):
            for call in (do_fit, first_unfit):
                for wish in (DOOR, EVERYTHING):
                    with self.assertRaises(OutOfPlace):
                        call(wish, FREE, films)

    def test_a_wrong_one_behind_one_that_does_not_fit(self):
        for films in ((SHUT, HELD, ((2,), ((),))), (HELD, None), (SHUT, ((0,), ()))):
            for call in (do_fit, first_unfit):
                with self.assertRaises(OutOfPlace):
                    call(DOOR, FREE, films)

    def test_right_guards_fit(self):
        draw = random.Random(103)
        tried = 0
        for wish, kind in drawn_games(103, 20):
            paper = kept_paper(wish, kind)
            if paper[0] == "kept" and len(paper[1]) <= 8:
                guard = guard_of(wish, kind, paper)
                self.fit(wish, kind, *[
                    film_of(guard, tuple(draw.randrange(wish[0]) for _ in range(40)))
                    for _ in range(20)])
                tried += 1
        self.assertGreater(tried, 20)

    def test_counted(self):
        draw = random.Random(104)
        wheres = set()
        for wish, kind in drawn_games(104, 30):
            if sum(kind[:2]) > 3:
                continue
            films = drawn_films(draw, wish, kind)
            kept = copy.deepcopy((wish, kind, films))
            where = told.first_unfit(wish, kind, films)
            if where is None:
                self.fit(wish, kind, *films)
            else:
                self.unfit(wish, kind, where, *films)
            self.assertEqual((wish, kind, films), kept)
            wheres.add(where)
        self.assertTrue({None, (0, 0), (0, 1), (0, 2), (1, 1), (1, 2), (2, 1)} <= wheres, wheres)

    def test_all_small_guards_tried(self):
        # Four memories are enough to show all that fits at four deeds.
        wish, kind = (1, ((1,), (0,)), (0,)), (1, 1, ())
        shows = [(), (0,), (0, 0)]
        guards = [tuple((((memory + 1) % 4, shown),) for memory, shown in enumerate(shown_at))
                  for shown_at in itertools.product(shows, repeat=4)]
        kept = [guard for guard in guards if not told.coming_places(wish, kind, guard)[1]]
        films = {film_of(guard, (0,) * 4) for guard in kept}
        self.assertEqual(len(films), 4)
        for shown_at in itertools.product(shows, repeat=4):
            film = ((0,) * 4, shown_at)
            self.assertIs(do_fit(wish, kind, (film,)), film in films)


if __name__ == "__main__":
    unittest.main()
