"""The desk: lines said to it, and its answers."""

import random
import unittest

from guardkeeps.desk import Desk
from guardkeeps.errors import OutOfPlace
from guardkeeps.games import can_be_kept
from guardkeeps.guards import output
from guardkeeps.judges import failing, first_failing
from guardkeeps.needs import least_ahead, least_hold, need
from guardkeeps.texts import guard_text, wish_text
from guardkeeps.watches import Watch
from things import (
    CLOSED_TO_ALL, DOOR, HOLDER, OPEN_TO_ALL, Unlike, drawn_judged, no_integers, no_tuples)

DOOR_LINE = "wish 2 / 1 0 / 2 0 / 2 2 / good 0"
HOLDER_LINE = "guard 1:- 0:1 / 2:- 0:0,1 / 2:- 2:-"
EVERYTHING_LINE = "wish 2 / 0 0 / good 0"
OPEN_LINE = "guard 0:0 0:1"
CLOSED_LINE = "guard 0:- 0:-"

WANT_A_WISH = ["kind 0 0", "kind 1 0 1", "kept", "hold", "ahead", "need", HOLDER_LINE]
WANT_A_GUARD = ["judge", "feed 0", "feed 1 1", "run", "output", "word"]


def led(*lines):
    """A desk to which some lines are said."""
    desk = Desk()
    for line in lines:
        desk.say(line)
    return desk


def state_of(desk):
    """All that a desk tells of itself."""
    watch = desk.watch
    return (desk.wish, desk.kind, watch and (watch.wish, watch.kind, watch.guard, watch.run))


class Lines(unittest.TestCase):
    def says(self, desk, *pairs):
        for line, answer in pairs:
            self.assertEqual(desk.say(line), answer, line)

    def says_no(self, desk, line):
        """It answers with "no", and all is as it was."""
        before, watch = state_of(desk), desk.watch
        self.assertEqual(desk.say(line), "no", line)
        self.assertEqual(state_of(desk), before)
        self.assertIs(desk.watch, watch)


class Desks(Lines):
    def test_at_first(self):
        desk = Desk()
        self.assertIsNone(desk.wish)
        self.assertIsNone(desk.kind)
        self.assertIsNone(desk.watch)
        for line in (*WANT_A_WISH, *WANT_A_GUARD):
            self.says_no(desk, line)

    def test_a_whole_row_of_lines(self):
        desk = Desk()
        self.says(
            desk, (DOOR_LINE, "done"), ("kept", "not"), ("hold", "1"), ("ahead", "1"),
            ("need", "1"), ("kind 1 0", "done"), ("kept", "yes"), (HOLDER_LINE, "done"),
            ("judge", "keeps"), ("run", "none"), ("output", "none"), ("word", "none"),
            ("feed 1", "1"), ("feed 0 1", "- 0,1"), ("run", "1 0 1"), ("output", "1 0 1"),
            ("feed 0 0 1", "- - -"), ("run", "1 0 1 0 0 1"), ("output", "1 0 1"), ("word", "none"),
            ("kind 1 0 1", "done"), ("kept", "not"), ("hold", "none"), ("ahead", "none"),
            ("judge", "no"), (HOLDER_LINE, "done"), ("judge", "0 1"), ("feed 0 1", "- 0,1"),
            ("word", "loose"), ("feed 0", "-"), ("word", "loose"), ("need", "1"))

    def test_by_name(self):
        desk = Desk()
        self.assertEqual(desk.say(line=DOOR_LINE), "done")
        self.assertEqual(desk.say(line="kept"), "not")

    def test_properties_are_read_alone(self):
        desk = led(DOOR_LINE, HOLDER_LINE)
        for name in ("wish", "kind", "watch"):
            self.assertIsInstance(getattr(Desk, name), property)
            with self.assertRaises(AttributeError):
                setattr(desk, name, None)

    def test_no_string(self):
        desk = led(DOOR_LINE, HOLDER_LINE, "feed 0")
        before = state_of(desk)
        for thing in (*no_integers(), *no_tuples(), 0, b"kept", ["kept"], ("kept",), DOOR, Unlike()):
            if not isinstance(thing, str):
                for ask in (lambda: desk.say(thing), lambda: desk.say(line=thing)):
                    with self.assertRaises(OutOfPlace) as caught:
                        ask()
                    self.assertIs(caught.exception.__class__, OutOfPlace)
                self.assertEqual(state_of(desk), before)

    def test_two_desks(self):
        one, other = led(DOOR_LINE), led(EVERYTHING_LINE, OPEN_LINE)
        self.says(one, (HOLDER_LINE, "done"), ("feed 0", "-"))
        self.says(other, ("feed 1", "1"))
        self.assertEqual(one.watch.run, (0,))
        self.assertEqual(other.watch.run, (1,))


class Wishes(Lines):
    def test_the_wish(self):
        desk = led(DOOR_LINE)
        self.assertEqual(state_of(desk), (DOOR, (0, 0, ()), None))

    def test_told_anew(self):
        desk = led(DOOR_LINE, "kind 1 2 0 1", HOLDER_LINE, "feed 0")
        self.says(desk, (EVERYTHING_LINE, "done"))
        self.assertEqual(state_of(desk), ((2, ((0, 0),), (0,)), (0, 0, ()), None))
        for line in WANT_A_GUARD:
            self.says_no(desk, line)
        self.says(desk, (OPEN_LINE, "done"), ("judge", "keeps"), ("feed 0", "0"))
        # The same one again, too.
        self.says(desk, ("kind 3 2", "done"), (EVERYTHING_LINE, "done"))
        self.assertEqual(state_of(desk), ((2, ((0, 0),), (0,)), (0, 0, ()), None))

    def test_no_wish(self):
        for desk in (Desk(), led(DOOR_LINE, "kind 1 0 1", HOLDER_LINE, "feed 1 0")):
            for rows in ("", " ", "2", "2 / 1 0", "2 / 1 0 / 2 0 / 2 2", "2 / 1 0 / good 0",
                         "/ 2 / 0 0 / good 0", "2 / 0 0 / good 0 /", "2 / 0 0 / good 0 / ",
                         "2 / 0 0 / good", "2 / 0 0 / good 1", "2 / 0 / good 0", "2/0 0/good 0",
                         "2 / 0 0/ good 0", "2 /0 0 / good 0", "2 /  / good 0", "2 / / good 0",
                         "2 /  0 0 / good 0", "2  / 0 0 / good 0", "2 / 0  0 / good 0",
                         "2 / 0 0 / good 0 ", "2 / 00 0 / good 0", "2\n0 0\ngood 0",
                         "2 / 0 0\ngood 0", "2 / 0 0 / good 0\n", "5 / 0 0 0 0 0 / good 0",
                         "2 / 0 0 / Good 0", "2 / 0 0 / good " + "0" * 31, "2 / 0 0 / good 0 0"):
                self.says_no(desk, "wish " + rows)
            for line in ("wish", "wish2 / 0 0 / good 0", "Wish 2 / 0 0 / good 0",
                         " wish 2 / 0 0 / good 0", "wish  2 / 0 0 / good 0", "2 / 0 0 / good 0",
                         "wish\n2 / 0 0 / good 0", "\nwish 2 / 0 0 / good 0",
                         "wish\t2 / 0 0 / good 0"):
                self.says_no(desk, line)

    def test_kept(self):
        desk = Desk()
        self.says(desk, (DOOR_LINE, "done"), ("kept", "not"), ("kind 1 0", "done"),
                  ("kept", "yes"), ("kind 0 1 0", "done"), ("kept", "yes"), ("kind 3 0 0", "done"),
                  ("kept", "not"), (EVERYTHING_LINE, "done"), ("kept", "yes"))

    def test_hold_ahead_and_need(self):
        desk = Desk()
        self.says(desk, (EVERYTHING_LINE, "done"), ("hold", "0"), ("ahead", "0"), ("need", "0"),
                  ("wish 1 / 1 / 2 / 3 / 4 / 5 / 0 / good 0", "done"), ("need", "5"),
                  ("hold", "none"), ("ahead", "none"), ("kind 3 0", "done"), ("ahead", "2"),
                  ("hold", "none"), ("kind 0 2", "done"), ("hold", "3"), ("ahead", "none"),
                  ("kind 3 2 0", "done"), ("hold", "none"), ("need", "5"),
                  ("wish 2 / 0 1 / 1 0 / good 0", "done"), ("need", "none"))


class Kinds(Lines):
    def test_the_kind(self):
        desk = led(DOOR_LINE)
        for line, kind in (("kind 0 0", (0, 0, ())), ("kind 3 2 0 1", (3, 2, (0, 1))),
                           ("kind 1 2 1", (1, 2, (1,))), ("kind 2 1 0", (2, 1, (0,)))):
            self.says(desk, (line, "done"))
            self.assertEqual(state_of(desk), (DOOR, kind, None))

    def test_told_anew(self):
        desk = led(DOOR_LINE, "kind 1 0", HOLDER_LINE, "feed 0")
        self.says(desk, ("kind 1 0", "done"))
        self.assertEqual(state_of(desk), (DOOR, (1, 0, ()), None))
        for line in WANT_A_GUARD:
            self.says_no(desk, line)

    def test_no_kind(self):
        for desk in (led(DOOR_LINE), led(DOOR_LINE, "kind 1 0 1", HOLDER_LINE, "feed 1 0")):
            for rest in ("", " ", " 0", " 0 ", " 4 0", " 0 3", " -1 0", " 0 0 2", " 0 0 1 0",
                         " 0 0 0 0", " 0 0 0 1 2", " 00 0", " 0 00", " 0 0 00", " 0 0 01", " +0 0",
                         " 0,0", " 0 0,1", "  0 0", " 0  0", " 0 0 ", " 0 0  1", " x 0", " 0 x",
                         " 0 0 x", " 0 0 0 x", " 0 0 -", " 1.0 0", " 0 0\n", "\t0 0", " 0 0\t1",
                         " \u0660 0", " \u00b9 0", " 0 0 none", " True 0"):
                self.says_no(desk, "kind" + rest)
            for line in ("Kind 0 0", " kind 0 0", "kinds 0 0", "0 0", "kind0 0"):
                self.says_no(desk, line)


class Guards(Lines):
    def test_the_guard_in_a_new_watch(self):
        desk = led(DOOR_LINE, "kind 1 0", HOLDER_LINE)
        self.assertEqual(desk.watch, Watch(DOOR, (1, 0, ()), HOLDER))
        self.assertIs(desk.watch, desk.watch)
        self.assertEqual((desk.wish, desk.kind), (DOOR, (1, 0, ())))

    def test_told_anew(self):
        desk = led(DOOR_LINE, "kind 1 0", HOLDER_LINE, "feed 0 1")
        old = desk.watch
        self.says(desk, (HOLDER_LINE, "done"), ("run", "none"))
        self.assertIsNot(desk.watch, old)
        self.assertEqual(old.run, (0, 1))
        self.says(desk, (OPEN_LINE, "done"), ("feed 0", "0"), ("word", "good"))
        self.assertEqual(desk.watch.guard, OPEN_TO_ALL)
        self.assertEqual(desk.kind, (1, 0, ()))

    def test_no_guard(self):
        for desk in (led(DOOR_LINE), led(DOOR_LINE, "kind 1 0 1", HOLDER_LINE, "feed 1 0")):
            for rest in ("", " ", " 0:-", " 0:- 0:- 0:-", " 1:- 0:-", " 0:2 0:-", " 0:- 0:- /",
                         " / 0:- 0:-", " 0:- 0:- / 0:-", " 0:- 0:-/0:- 0:-", " 0:- 0:-\n0:- 0:-",
                         " 0:-  0:-", "  0:- 0:-", " 0:- 0:- ", " 00:- 0:-", " 0:- 0:", " 0:- 0",
                         " 0:- 0:0,0,0,0,0,0,0", " 0:- 0:0, 1", " / ".join([""] + ["0:- 0:-"] * 9),
                         " 0:- / 0:-", " 0:- 0:- /  0:- 0:-", "\t0:- 0:-", " 0:- 0:-\n", " -"):
                self.says_no(desk, "guard" + rest)
            for line in ("Guard 0:- 0:-", "guards 0:- 0:-", " guard 0:- 0:-", "0:- 0:-"):
                self.says_no(desk, line)

    def test_judge(self):
        desk = led(DOOR_LINE, "kind 1 0 1", HOLDER_LINE)
        self.says(desk, ("judge", "0 1"), (OPEN_LINE, "done"), ("judge", "0"),
                  (EVERYTHING_LINE, "done"), (OPEN_LINE, "done"), ("judge", "keeps"),
                  ("guard 0:0 0:-", "done"), ("judge", "1"))
        # What was fed says nothing of it.
        self.says(desk, (OPEN_LINE, "done"), ("feed 0 1 1", "0 1 1"), ("judge", "keeps"))

    def test_the_greatest_guard(self):
        desk = led("wish 4 / " + "5 5 5 5 / " * 6 + "good 0 1 2 3 4 5", "kind 3 2 0 1 2 3")
        line = "guard " + " / ".join([" ".join(["7:3,3,3,3,3,3"] * 4)] * 8)
        self.says(desk, (line, "done"), ("judge", "0"), ("feed 3 0", "3,3,3,3,3,3 3,3,3,3,3,3"),
                  ("output", " ".join("3" * 12)), ("word", "run"))


class Feeds(Lines):
    def test_what_is_shown(self):
        desk = led(DOOR_LINE, "kind 1 0", HOLDER_LINE)
        self.says(desk, ("feed 1 0 1 0 0", "1 - 0,1 - -"), ("run", "1 0 1 0 0"),
                  ("output", "1 0 1"))
        many = led(EVERYTHING_LINE, OPEN_LINE)
        self.says(many, ("feed" + " 0 1" * 500, " ".join(["0 1"] * 500)),
                  ("run", " ".join(["0 1"] * 500)))
        self.assertEqual(len(many.watch), 1000)

    def test_one_wrong_deed_among_several(self):
        desk = led(DOOR_LINE, "kind 1 0", HOLDER_LINE, "feed 1")
        for rest in ("", " ", " 2", " 0 2", " 2 0", " 0 1 2", " 0 1 x", " 0 1 -", " 0 -1", " 0 1 ",
                     " 0  1", "  0", " 00", " 0 01", " 0 1.0", " 0,1", " 0 1 0 1 9", " 0\n1",
                     " 0 1\n", " True", " 0 \u0661", " 0 \u00b2", "\t0", " none"):
            self.says_no(desk, "feed" + rest)
        self.says(desk, ("run", "1"), ("feed 0 1", "- 0,1"))

    def test_many_figures(self):
        desk = led(DOOR_LINE, "kind 1 0", HOLDER_LINE)
        for figures in (2, 30, 31, 32, 999, 5000):
            for number in ("1" * figures, "9" * figures, "0" * figures, "0" * (figures - 1) + "1"):
                for line in (f"feed {number}", f"feed 0 {number}", f"kind {number} 0",
                             f"kind 0 {number}", f"kind 0 0 {number}", f"kind 0 0 0 {number}",
                             f"guard 0:{number} 0:-", f"guard {number}:- 0:-",
                             f"wish {number} / 0 0 / good 0", f"wish 2 / 0 {number} / good 0",
                             f"wish 2 / 0 0 / good {number}", f"wish 2 / 0 0 / good 0 {number}"):
                    self.says_no(desk, line)

    def test_the_word(self):
        desk = led(EVERYTHING_LINE, CLOSED_LINE)
        self.says(desk, ("word", "none"), ("feed 0", "-"), ("word", "run"), ("output", "none"),
                  ("run", "0"), ("feed 0", "-"), ("word", "run"))

    def test_a_watch_fed_from_outside(self):
        desk = led(DOOR_LINE, "kind 1 0", HOLDER_LINE)
        watch = desk.watch
        self.assertEqual(watch.feed(1), (1,))
        self.says(desk, ("run", "1"), ("feed 0", "-"))
        self.assertEqual(watch.run, (1, 0))
        self.assertEqual(watch.feed(1), (0, 1))
        self.says(desk, ("output", "1 0 1"))
        watch.back(many=2)
        self.says(desk, ("run", "1"), ("output", "1"))
        with watch.trial():
            self.says(desk, ("feed 0 0", "- -"), ("run", "1 0 0"))
        self.says(desk, ("run", "1"), ("feed 0 1", "- 0,1"))
        watch.back(many=3)
        self.says(desk, ("run", "none"), ("output", "none"), ("judge", "keeps"))
        self.assertIs(desk.watch, watch)
        self.says(desk, ("kind 1 1", "done"))
        self.assertEqual(watch.feed(0), ())
        self.assertIsNone(desk.watch)

    def test_a_copy_says_nothing_at_the_desk(self):
        desk = led(DOOR_LINE, "kind 1 0", HOLDER_LINE)
        desk.watch.copy().feed(1)
        self.says(desk, ("run", "none"))


class Words(Lines):
    def test_lines_of_one_word(self):
        desk = led(DOOR_LINE, "kind 1 0", HOLDER_LINE, "feed 1 0")
        for word in ("kept", "hold", "ahead", "need", "judge", "run", "output", "word"):
            self.assertNotEqual(desk.say(word), "no")
            for line in (word + " ", " " + word, word + " 0", word + " none", word + " " + word,
                         word + "\n", "\n" + word, word.upper(), word.title(), word[:-1],
                         word + "s", word + "\t", word + " /", word * 2):
                self.says_no(desk, line)

    def test_no_such_line(self):
        for desk in (Desk(), led(DOOR_LINE), led(DOOR_LINE, HOLDER_LINE, "feed 1")):
            for line in ("", " ", "\n", "/", " / ", "done", "no", "yes", "not", "keeps", "none",
                         "good 0", "back", "back 1", "copy", "trial", "memory", "wishes", "held",
                         "fails", "0", "1:-", "feeds 0", "help", "quit", "x" * 20000, " " * 20000,
                         "\x00", "\u00e4", "_answer", "__init__", "say kept"):
                self.says_no(desk, line)

    def test_what_wants_a_wish(self):
        desk = Desk()
        for line in WANT_A_WISH:
            self.says_no(desk, line)
        self.says(desk, (DOOR_LINE, "done"))
        for line in WANT_A_WISH:
            self.assertNotEqual(desk.say(line), "no", line)

    def test_what_wants_a_guard(self):
        desk = led(DOOR_LINE)
        for line in WANT_A_GUARD:
            self.says_no(desk, line)
        self.says(desk, (HOLDER_LINE, "done"))
        for line in WANT_A_GUARD:
            self.assertNotEqual(desk.say(line), "no", line)

    def test_answers_are_strings(self):
        desk = Desk()
        for line in (DOOR_LINE, *WANT_A_WISH, *WANT_A_GUARD, "x", ""):
            self.assertIs(desk.say(line).__class__, str)


class Drawn(Lines):
    """Lines of all kinds, answered by what the functions tell."""

    def test_drawn(self):
        draw = random.Random(131)
        for wish, kind, guard in drawn_judged(131, 4):
            desk, loose = Desk(), " ".join(map(str, ("", *kind[2])))
            self.says(
                desk, ("wish " + wish_text(wish).replace("\n", " / "), "done"),
                (f"kind {kind[0]} {kind[1]}{loose}", "done"),
                ("kept", "yes" if can_be_kept(wish, kind) else "not"),
                ("hold", self.number(least_hold(wish, kind[1], kind[2]))),
                ("ahead", self.number(least_ahead(wish, kind[0], kind[2]))),
                ("need", self.number(need(wish))),
                ("guard " + guard_text(wish[0], guard).replace("\n", " / "), "done"),
                ("judge", self.deeds(first_failing(wish, kind, guard), "keeps")))
            run = ()
            for _ in range(4):
                deeds = tuple(draw.randrange(wish[0]) for _ in range(draw.randrange(1, 5)))
                shown = []
                for deed in deeds:
                    before = output(wish[0], guard, run)
                    run = (*run, deed)
                    more = output(wish[0], guard, run)[len(before):]
                    shown.append(",".join(map(str, more)) or "-")
                fault = failing(wish, kind, guard, run)
                self.says(desk, ("feed " + self.deeds(deeds, ""), " ".join(shown)),
                          ("run", self.deeds(run, "none")),
                          ("output", self.deeds(output(wish[0], guard, run), "none")),
                          ("word", fault[1] if fault else "none"))
            self.assertEqual(state_of(desk), (wish, kind, (wish, kind, guard, run)))

    def number(self, thing):
        return "none" if thing is None else str(thing)

    def deeds(self, run, none):
        return " ".join(map(str, run)) if run else none


if __name__ == "__main__":
    unittest.main()
