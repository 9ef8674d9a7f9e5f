"""WISHES and GUARDS as texts."""

import copy
import random
import unittest

from guardkeeps.errors import BadText, OutOfPlace
from guardkeeps.guards import need_guard
from guardkeeps.texts import guard_text, read_guard, read_wish, wish_text
from guardkeeps.wishes import need_wish
from things import (
    ALL_GOOD, CLOSED_TO_ALL, DOOR, HOLDER, MIXED, OPEN_TO_ALL, Unlike, drawn_guard, drawn_wishes,
    no_integers)

DOOR_TEXT = "2\n1 0\n2 0\n2 2\ngood 0"
MIXED_TEXT = "2\n1 2\n0 2\n2 2\n4 1\n2 4\ngood 0"
HOLDER_TEXT = "1:- 0:1\n2:- 0:0,1\n2:- 2:-"
SIX_TEXT = "0:0,1,1,0,1,0 0:-"

# The greatest wish and guard that there are.
GREAT_WISH = (4, ((5,) * 4,) * 6, (0, 1, 2, 3, 4, 5))
GREAT_WISH_TEXT = "4\n" + "5 5 5 5\n" * 6 + "good 0 1 2 3 4 5"
GREAT_GUARD = (((7, (3,) * 6),) * 4,) * 8
GREAT_GUARD_TEXT = "\n".join([" ".join(["7:3,3,3,3,3,3"] * 4)] * 8)


def no_strings():
    """Things that are no strings."""
    return [thing for thing in no_integers() if not isinstance(thing, str)] + [
        0, 1, DOOR, HOLDER, DOOR_TEXT.encode(), HOLDER_TEXT.encode(), [DOOR_TEXT], (HOLDER_TEXT,),
        list(DOOR_TEXT), DOOR_TEXT.split("\n"), Unlike()]


def spoiled(text):
    """Many texts that differ from one in a few signs."""
    others = {text + end for end in ("\n", " ", "0", ",", ":", "-", "\n\n", " 0", "\t", "x")}
    others |= {start + text for start in ("\n", " ", "0", "+", "-", "\ufeff", "x")}
    for at in range(len(text)):
        others.add(text[:at] + text[at + 1:])
        others.add(text[:at])
        others.add(text[at:])
        others |= {text[:at] + sign + text[at:] for sign in " \n\t\r0-+,:_.x"}
        others |= {text[:at] + sign + text[at + 1:] for sign in " \n\t\r0123456789-+,:gG_\u0662"}
    return sorted(others - {text})


class Texts(unittest.TestCase):
    def no_wish(self, line, string):
        for ask in (lambda: read_wish(string), lambda: read_wish(string=string)):
            with self.assertRaises(BadText) as caught:
                ask()
            self.assertIs(caught.exception.__class__, BadText)
            self.assertEqual(caught.exception.line, line, string)

    def no_guard(self, line, deeds, string):
        for ask in (lambda: read_guard(deeds, string),
                    lambda: read_guard(string=string, deeds=deeds)):
            with self.assertRaises(BadText) as caught:
                ask()
            self.assertIs(caught.exception.__class__, BadText)
            self.assertEqual(caught.exception.line, line, string)


class WishTexts(Texts):
    def there_and_back(self, wish, text):
        self.assertEqual(wish_text(wish), text)
        self.assertEqual(wish_text(wish=wish), text)
        self.assertEqual(read_wish(text), wish)
        self.assertEqual(read_wish(string=text), wish)
        self.assertIs(wish_text(wish).__class__, str)

    def test_by_hand(self):
        self.there_and_back(DOOR, DOOR_TEXT)
        self.there_and_back(MIXED, MIXED_TEXT)
        self.there_and_back((3, ((0, 1, 0), (1, 1, 0)), (0, 1)), "3\n0 1 0\n1 1 0\ngood 0 1")

    def test_the_least_and_the_greatest(self):
        self.there_and_back(ALL_GOOD, "1\n0\ngood 0")
        self.there_and_back(GREAT_WISH, GREAT_WISH_TEXT)

    def test_drawn(self):
        for wish in drawn_wishes(121, 4):
            kept = copy.deepcopy(wish)
            read = read_wish(wish_text(wish))
            self.assertEqual(read, wish)
            self.assertEqual(need_wish(read), read)
            self.assertEqual(wish, kept)

    def test_no_string(self):
        for thing in no_strings():
            self.no_wish(0, thing)

    def test_texts_of_nothing(self):
        for text in ("", "\n", " ", "2", "good", "good 0", "2\ngood 0", "\n\n", "2\n\ngood 0",
                     "1\n0\n", "1\n0\ngood", "1\n0\ngood ", "0\n\ngood 0", "0\ngood 0",
                     "1\n0\n0", "1\n0\nGood 0", "1\n0\nbad 0", "1\n0\n0 good", "1\n0\ngood 0 0",
                     "1\n0\ngood 0\ngood 0", "1\n0\n\ngood 0", "1\n\n0\ngood 0", "x" * 20000,
                     "\n" * 20000, "1\n" * 9999, "1 " * 9999, HOLDER_TEXT, SIX_TEXT):
            self.no_wish(1, text)

    def test_what_is_no_wish(self):
        for text in ("5\n0 0 0 0 0\ngood 0", "1\n1\ngood 0", "2\n0\ngood 0", "1\n0 0\ngood 0",
                     "1\n0\ngood 1", "1\n0\n0\ngood 1", "1\n0\n1\ngood 1 0", "1\n0\ngood 0 1",
                     "1" + "\n0" * 7 + "\ngood 0", "2\n0 0\n0\ngood 0", "1\n-1\ngood 0"):
            self.no_wish(1, text)

    def test_signs_and_blanks(self):
        for text in ("1\n00\ngood 0", "01\n0\ngood 0", "1\n0\ngood 00", "+1\n0\ngood 0",
                     "1\n+0\ngood 0", "1\n-0\ngood 0", "1.0\n0\ngood 0", "1_0\n0\ngood 0",
                     "1\n0\ngood  0", "1\n0\n good 0", "1\n0 \ngood 0", "1\n 0\ngood 0",
                     "1 \n0\ngood 0", "1\n0\ngood 0 ", "1\r\n0\r\ngood 0", "1\n0\ngood\t0",
                     "1\n0\ngood,0", "2\n1,0\n2 0\n2 2\ngood 0", "2\n1  0\n2 0\n2 2\ngood 0",
                     "\u0661\n0\ngood 0", "1\n\u00b2\ngood 0", "\uff11\n0\ngood 0", "1\n0\ngood 0\x00",
                     "1\v0\vgood 0", "1\u20280\u2028good 0", "1 0 good 0", "1 / 0 / good 0"):
            self.no_wish(1, text)

    def test_many_figures(self):
        for figures in (2, 31, 32, 999, 5000, 19000):
            for number in ("1" * figures, "0" * figures, "9" * figures, "0" * (figures - 1) + "1"):
                self.no_wish(1, f"{number}\n0\ngood 0")
                self.no_wish(1, f"1\n{number}\ngood 0")
                self.no_wish(1, f"1\n0\ngood {number}")
                self.no_wish(1, f"1\n0\ngood 0 {number}")

    def test_one_thing_otherwise(self):
        right = 0
        for text in (DOOR_TEXT, "1\n0\ngood 0", "3\n0 1 0\n1 1 0\ngood 0 1"):
            for other in spoiled(text):
                wish = self.wish_in(other)
                if wish is None:
                    self.no_wish(1, other)
                else:
                    right += 1
                    self.assertEqual(read_wish(other), wish)
        self.assertGreater(right, 10)

    def wish_in(self, text):
        """The WISH that a text writes, found by writing what it might be."""
        rows = text.replace("good", "").split("\n")
        try:
            numbers = [tuple(int(word) for word in row.split()) for row in rows]
            wish = (numbers[0][0], tuple(numbers[1:-1]), numbers[-1])
            return wish if wish_text(wish) == text else None
        except (ValueError, IndexError):
            return None


class GuardTexts(Texts):
    def there_and_back(self, deeds, guard, text):
        self.assertEqual(guard_text(deeds, guard), text)
        self.assertEqual(guard_text(guard=guard, deeds=deeds), text)
        self.assertEqual(read_guard(deeds, text), guard)
        self.assertEqual(read_guard(string=text, deeds=deeds), guard)
        self.assertIs(guard_text(deeds, guard).__class__, str)

    def test_by_hand(self):
        self.there_and_back(2, HOLDER, HOLDER_TEXT)
        self.there_and_back(2, OPEN_TO_ALL, "0:0 0:1")
        self.there_and_back(2, CLOSED_TO_ALL, "0:- 0:-")
        self.there_and_back(2, (((0, (0, 1, 1, 0, 1, 0)), (0, ())),), SIX_TEXT)

    def test_the_least_and_the_greatest(self):
        self.there_and_back(1, (((0, ()),),), "0:-")
        self.there_and_back(4, GREAT_GUARD, GREAT_GUARD_TEXT)

    def test_drawn(self):
        draw = random.Random(122)
        for deeds in range(1, 5):
            for memories in range(1, 9):
                guard = drawn_guard(draw, deeds, memories)
                kept = copy.deepcopy(guard)
                read = read_guard(deeds, guard_text(deeds, guard))
                self.assertEqual(read, guard)
                self.assertEqual(need_guard(deeds, read), read)
                self.assertEqual(guard, kept)
                for other in range(1, 5):
                    if other != deeds:
                        self.no_guard(1, other, guard_text(deeds, guard))

    def test_no_string(self):
        for thing in no_strings():
            self.no_guard(0, 2, thing)

    def test_no_number_of_deeds(self):
        for deeds in (*no_integers(), 0, 5, -1, 10 ** 999):
            for thing in (SIX_TEXT, None, Unlike(), ""):
                with self.assertRaises(OutOfPlace):
                    read_guard(deeds, thing)
                with self.assertRaises(OutOfPlace):
                    guard_text(deeds, thing)

    def test_texts_of_nothing(self):
        for text in ("", "\n", " ", "-", ":", ":-", "0", "0:", "0-", "0 -", "- -", "0:- 0", "0:- ",
                     "0:- 0:", "0:- 0:-\n", "\n0:- 0:-", "0:-\n0:-", "0:-  0:-", " 0:- 0:-",
                     "0:-,0:-", "0:- 0:--", "0:- 0:-,", "0:- 0:,", "0:- 0:-,0", "0:- 0:0,", "0:- 0:,0",
                     "0:- 0:0,,1", "0:- 0:0 1", "0:- 0:0, 1", "0:- 0:0 ,1", "0:- 0 :0", "0:- 0: 0",
                     "0:- 0:0:1", "0:- 0::0", "0:- 0;0", "0:- 0:0.1", "0:- none", "x" * 20000,
                     "\n" * 20000, "0:- " * 5000, "0:- 0:-\n" * 2500, DOOR_TEXT, MIXED_TEXT):
            self.no_guard(1, 2, text)

    def test_what_is_no_guard(self):
        for text in ("0:-", "0:- 0:- 0:-", "1:- 0:-", "0:- 0:2", "0:- 0:0,2", "8:- 0:-",
                     "0:- 0:0,0,0,0,0,0,0", "-1:- 0:-", "0:- 0:-1", "\n".join(["0:- 0:-"] * 9),
                     "0:- 0:-\n0:-", "0:- 0:-\n0:- 2:-", "0:- 0:()", "0:() 0:()"):
            self.no_guard(1, 2, text)

    def test_signs_and_blanks(self):
        for text in ("00:- 0:-", "0:00 0:-", "0:- 0:0,01", "+0:- 0:-", "0:+0 0:-", "0:-0 0:-",
                     "0:-\t0:-", "0:-\r\n0:-", "\u0660:- 0:-", "0:\u0660 0:-", "0:\u00b9 0:-",
                     "0:- 0:\uff11", "0:- 0:1_0", "0:- 0:0x1", "0:- 0:1.0", "0:- / 0:-"):
            self.no_guard(1, 2, text)

    def test_many_figures(self):
        for figures in (2, 31, 32, 999, 5000, 19000):
            for number in ("1" * figures, "0" * figures, "0" * (figures - 1) + "1"):
                for text in (f"{number}:- 0:-", f"0:- 0:{number}", f"0:- 0:0,{number}"):
                    self.no_guard(1, 2, text)

    def test_one_thing_otherwise(self):
        right = 0
        for text in (HOLDER_TEXT, SIX_TEXT, "0:- 0:1"):
            for other in spoiled(text):
                guard = self.guard_in(other)
                if guard is None:
                    self.no_guard(1, 2, other)
                else:
                    right += 1
                    self.assertEqual(read_guard(2, other), guard)
        self.assertGreater(right, 10)

    def guard_in(self, text):
        """The GUARD that a text writes, found by writing what it might be."""
        try:
            guard = tuple(tuple(
                (int(word.split(":")[0]), tuple(
                    int(deed) for deed in word.split(":")[1].split(",") if deed != "-"))
                for word in row.split()) for row in text.split("\n"))
            return guard if guard_text(2, guard) == text else None
        except (ValueError, IndexError):
            return None


if __name__ == "__main__":
    unittest.main()
