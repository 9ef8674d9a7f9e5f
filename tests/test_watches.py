"""A live WATCH: fed, taken back, copied, and tried."""

import copy
import random
import unittest

import told
from guardkeeps.errors import BadGuard, BadKind, BadWish, Nothing, OutOfPlace
from guardkeeps.watches import Watch, under
from things import (
    CLOSED_TO_ALL, DOOR, HOLDER, MANY_FIGURES, OPEN_TO_ALL, SHUTTER, Unlike, drawn_judged,
    no_integers, no_numbers)

HOLD = (1, 0, ())
FREE = (0, 0, ())
EVERYTHING = (2, ((0, 0),), (0,))


def fed(watch, *deeds):
    """The watch itself, with some deeds fed to it."""
    for deed in deeds:
        watch.feed(deed)
    return watch


def state_of(watch):
    """All that a watch tells of itself."""
    return (watch.wish, watch.kind, watch.guard, watch.run, watch.output, watch.memory, watch.word,
            len(watch), [deed in watch for deed in range(4)])


def all_told(wish, kind, guard, run):
    """All that a watch with these deeds is to tell of itself."""
    steps = told.steps_of(guard, run)
    output = tuple(deed for _, shown, _ in steps for deed in shown)
    fault = told.failing(wish, kind, guard, run)
    return (wish, kind, guard, run, output, steps[-1][2] if steps else 0, fault and fault[1],
            len(run), [deed in output for deed in range(4)])


class Watches(unittest.TestCase):
    def assert_as_fed(self, watch, run):
        self.assertEqual(state_of(watch), all_told(watch.wish, watch.kind, watch.guard, run))


class Fed(Watches):
    def test_at_first(self):
        watch = Watch(DOOR, HOLD, HOLDER)
        self.assertEqual(state_of(watch), (DOOR, HOLD, HOLDER, (), (), 0, None, 0, [False] * 4))
        self.assertEqual(watch, Watch(guard=HOLDER, kind=HOLD, wish=DOOR))

    def test_by_hand(self):
        watch = Watch(DOOR, HOLD, HOLDER)
        for deed, shown, memory in ((1, (1,), 0), (0, (), 1), (1, (0, 1), 0), (0, (), 1),
                                    (0, (), 2), (1, (), 2)):
            self.assertEqual(watch.feed(deed), shown)
            self.assertEqual(watch.memory, memory)
        self.assertEqual(watch.run, (1, 0, 1, 0, 0, 1))
        self.assertEqual(watch.output, (1, 0, 1))
        self.assertIsNone(watch.word)
        self.assertEqual(len(watch), 6)

    def test_by_name(self):
        self.assertEqual(Watch(DOOR, HOLD, HOLDER).feed(deed=1), (1,))

    def test_the_word(self):
        for wish, kind, guard, run, words in (
                (DOOR, FREE, OPEN_TO_ALL, (1, 0, 1, 1), (None, "good", "good", "good")),
                (EVERYTHING, FREE, CLOSED_TO_ALL, (0, 1), ("run", "run")),
                (DOOR, (1, 0, (1,)), HOLDER, (1, 0, 1, 0), (None, None, "loose", "loose")),
                (DOOR, HOLD, (*HOLDER[:2], ((2, ()), (2, (1,)))), (0, 0, 0, 1, 0),
                 (None, None, None, "still", "still"))):
            watch = Watch(wish, kind, guard)
            for deed, word in zip(run, words):
                watch.feed(deed)
                self.assertEqual(watch.word, word)
            for word in reversed((None, *words[:-1])):
                watch.back()
                self.assertEqual(watch.word, word)

    def test_drawn(self):
        draw = random.Random(111)
        words = set()
        for wish, kind, guard in drawn_judged(111, 3):
            given = copy.deepcopy((wish, kind, guard))
            watch, run = Watch(wish, kind, guard), ()
            for _ in range(12):
                deed = draw.randrange(wish[0])
                run = (*run, deed)
                self.assertEqual(watch.feed(deed), told.steps_of(guard, run)[-1][1])
                self.assert_as_fed(watch, run)
            words.add(watch.word)
            self.assertEqual((wish, kind, guard), given)
        self.assertEqual(words, {None, "good", "run", "loose", "still"})

    def test_more_than_400_deeds(self):
        watch = Watch(DOOR, HOLD, HOLDER)
        for _ in range(1000):
            self.assertEqual(watch.feed(0), ())
            self.assertEqual(watch.feed(1), (0, 1))
        self.assertEqual(len(watch), 2000)
        self.assertEqual(watch.run, (0, 1) * 1000)
        self.assertEqual(watch.output, (0, 1) * 1000)
        self.assertIsNone(watch.word)
        fed(watch, 0, 0, 1)
        self.assertEqual(watch.memory, 2)
        watch.back(many=2003)
        self.assertEqual(watch, Watch(DOOR, HOLD, HOLDER))

    def test_what_fails_behind_more_than_400_deeds(self):
        watch = Watch(DOOR, FREE, OPEN_TO_ALL)
        fed(watch, *(1,) * 500)
        self.assertIsNone(watch.word)
        self.assertEqual(watch.feed(0), (0,))
        self.assertEqual(watch.word, "good")

    def test_what_is_no_deed(self):
        watch = fed(Watch(DOOR, HOLD, HOLDER), 1, 0)
        for thing in (*no_numbers(2), (0,), (1, 0), watch, DOOR):
            for ask in (lambda: watch.feed(thing), lambda: watch.feed(deed=thing)):
                with self.assertRaises(OutOfPlace) as caught:
                    ask()
                self.assertIs(caught.exception.__class__, OutOfPlace)
            self.assert_as_fed(watch, (1, 0))
        self.assertEqual(watch.feed(1), (0, 1))

    def test_deeds_of_the_wish_alone(self):
        for deeds in range(1, 5):
            wish = (deeds, ((0,) * deeds,), (0,))
            watch = Watch(wish, FREE, (tuple((0, (deed,)) for deed in range(deeds)),))
            for deed in range(deeds):
                self.assertEqual(watch.feed(deed), (deed,))
            with self.assertRaises(OutOfPlace):
                watch.feed(deeds)
            self.assertEqual(watch.run, tuple(range(deeds)))

    def test_properties_are_read_alone(self):
        watch = fed(Watch(DOOR, HOLD, HOLDER), 1)
        for name in ("wish", "kind", "guard", "run", "output", "memory", "word"):
            self.assertIsInstance(getattr(Watch, name), property)
            with self.assertRaises(AttributeError):
                setattr(watch, name, getattr(watch, name))
        for name in ("run", "output"):
            self.assertIs(getattr(watch, name).__class__, tuple)
        run = watch.run
        watch.feed(0)
        self.assertEqual(run, (1,))


class Contains(Watches):
    def test_deeds_of_the_output(self):
        watch = Watch(DOOR, HOLD, HOLDER)
        self.assertIs(0 in watch, False)
        self.assertIs(1 in watch, False)
        watch.feed(0)
        # It is a deed of the RUN, but held back.
        self.assertIs(0 in watch, False)
        watch.feed(1)
        self.assertIs(0 in watch, True)
        self.assertIs(1 in watch, True)
        watch.back()
        self.assertIs(0 in watch, False)

    def test_shown_ahead(self):
        watch = fed(Watch(DOOR, (0, 1, ()), SHUTTER), 0)
        self.assertIs(1 in watch, True)

    def test_any_value(self):
        watch = fed(Watch(DOOR, HOLD, HOLDER), 0, 1)
        for thing in (*no_numbers(2), (0,), (0, 1), (1,), watch, Watch, DOOR):
            self.assertIs(thing in watch, False)
            self.assertIs(thing not in watch, True)


class Back(Watches):
    def test_by_hand(self):
        watch = fed(Watch(DOOR, HOLD, HOLDER), 1, 0, 1, 0, 0, 1)
        self.assertIsNone(watch.back())
        self.assert_as_fed(watch, (1, 0, 1, 0, 0))
        self.assertIsNone(watch.back(many=2))
        self.assert_as_fed(watch, (1, 0, 1))
        self.assertIsNone(watch.back(many=1))
        self.assert_as_fed(watch, (1, 0))
        self.assertEqual(watch.feed(1), (0, 1))

    def test_as_many_as_were_fed_and_one_more(self):
        for many in range(6):
            watch = fed(Watch(DOOR, HOLD, HOLDER), *(0, 1, 0, 1, 1)[:many])
            for more in (many + 1, many + 2, 400, 10 ** 30, MANY_FIGURES):
                with self.assertRaises(Nothing) as caught:
                    watch.back(many=more)
                self.assertIs(caught.exception.__class__, Nothing)
                self.assert_as_fed(watch, (0, 1, 0, 1, 1)[:many])
            if many:
                watch.back(many=many)
                self.assertEqual(watch, Watch(DOOR, HOLD, HOLDER))
            with self.assertRaises(Nothing):
                watch.back()
            self.assertEqual(watch.feed(0), ())

    def test_what_is_no_integer_from_1_on(self):
        watch = Watch(DOOR, HOLD, HOLDER)
        for run in ((), (0, 1, 1)):
            fed(watch, *run)
            for many in (*no_integers(), 0, -1, -2, -MANY_FIGURES, (1,)):
                with self.assertRaises(OutOfPlace) as caught:
                    watch.back(many=many)
                self.assertIs(caught.exception.__class__, OutOfPlace)
                self.assert_as_fed(watch, run)

    def test_by_its_name_alone(self):
        watch = fed(Watch(DOOR, HOLD, HOLDER), 0, 1)
        with self.assertRaises(TypeError):
            watch.back(1)
        self.assert_as_fed(watch, (0, 1))

    def test_drawn(self):
        draw = random.Random(112)
        for wish, kind, guard in drawn_judged(112, 2):
            watch, run = Watch(wish, kind, guard), ()
            for _ in range(25):
                if run and draw.random() < 0.4:
                    many = draw.randrange(1, len(run) + 1)
                    watch.back(many=many)
                    run = run[:-many]
                else:
                    run = (*run, draw.randrange(wish[0]))
                    watch.feed(run[-1])
                self.assert_as_fed(watch, run)


class Copies(Watches):
    def test_goes_on_by_itself(self):
        watch = fed(Watch(DOOR, HOLD, HOLDER), 1, 0)
        twin = watch.copy()
        self.assertIs(twin.__class__, Watch)
        self.assertIsNot(twin, watch)
        self.assertEqual(twin, watch)
        self.assert_as_fed(twin, (1, 0))
        self.assertEqual(twin.feed(1), (0, 1))
        self.assert_as_fed(watch, (1, 0))
        self.assert_as_fed(twin, (1, 0, 1))
        self.assertEqual(watch.feed(0), ())
        watch.back(many=3)
        self.assert_as_fed(watch, ())
        self.assert_as_fed(twin, (1, 0, 1))
        third = twin.copy()
        twin.back(many=2)
        self.assert_as_fed(third, (1, 0, 1))

    def test_of_one_that_fails(self):
        watch = fed(Watch(DOOR, FREE, OPEN_TO_ALL), 1, 0)
        twin = watch.copy()
        self.assertEqual(twin.word, "good")
        twin.back()
        self.assertIsNone(twin.word)
        self.assertEqual(watch.word, "good")

    def test_within_a_trial(self):
        watch = fed(Watch(DOOR, HOLD, HOLDER), 1)
        with watch.trial() as held:
            twin = fed(held, 0, 1).copy()
        self.assert_as_fed(watch, (1,))
        self.assert_as_fed(twin, (1, 0, 1))
        fed(watch, 1, 1)
        self.assert_as_fed(twin, (1, 0, 1))


class Equal(Watches):
    def test_the_same_things(self):
        for run in ((), (0,), (1, 0, 1)):
            one, other = fed(Watch(DOOR, HOLD, HOLDER), *run), fed(Watch(DOOR, HOLD, HOLDER), *run)
            self.assertIs(one == other, True)
            self.assertIs(other == one, True)
            self.assertIs(one != other, False)
            self.assertIs(one == one, True)

    def test_one_thing_otherwise(self):
        right = fed(Watch(DOOR, HOLD, HOLDER), 1, 0)
        others = [fed(Watch(DOOR, HOLD, HOLDER), 1), fed(Watch(DOOR, HOLD, HOLDER), 1, 1),
                  fed(Watch(DOOR, HOLD, HOLDER), 1, 0, 1), fed(Watch(DOOR, HOLD, HOLDER), 0, 1),
                  fed(Watch(DOOR, (1, 1, ()), HOLDER), 1, 0), Watch(DOOR, HOLD, HOLDER),
                  fed(Watch((2, DOOR[1], (0, 1)), HOLD, HOLDER), 1, 0),
                  # A guard that is alike, and a wish that is alike, are not the same.
                  fed(Watch(DOOR, HOLD, (*HOLDER, HOLDER[2])), 1, 0),
                  fed(Watch((2, (*DOOR[1], (0, 0)), (0,)), HOLD, HOLDER), 1, 0)]
        for other in others:
            self.assertIs(right == other, False)
            self.assertIs(other == right, False)
            self.assertIs(right != other, True)

    def test_the_same_output_of_another_run(self):
        stops = (((0, ()), (0, ())),)
        self.assertIs(fed(Watch(DOOR, HOLD, stops), 0) == fed(Watch(DOOR, HOLD, stops), 1), False)

    def test_another_way_to_the_same_run(self):
        one = fed(Watch(DOOR, HOLD, HOLDER), 0, 0, 1)
        one.back(many=2)
        fed(one, 1)
        self.assertIs(one == fed(Watch(DOOR, HOLD, HOLDER), 0, 1), True)

    def test_what_is_no_watch(self):
        watch = fed(Watch(DOOR, HOLD, HOLDER), 1, 0)
        for thing in (*no_integers(), 0, 1, (1, 0), state_of(watch), DOOR, HOLDER, Watch,
                      watch.trial()):
            if not isinstance(thing, Unlike):
                self.assertIs(watch == thing, False)
                self.assertIs(thing == watch, False)
                self.assertIs(watch != thing, True)
        self.assertIs(watch.__eq__(Unlike()), False)


class Trials(Watches):
    def test_as_it_was(self):
        watch = fed(Watch(DOOR, HOLD, HOLDER), 1, 0)
        with watch.trial() as held:
            self.assertIs(held, watch)
            self.assert_as_fed(held, (1, 0))
            self.assertEqual(held.feed(1), (0, 1))
            self.assert_as_fed(watch, (1, 0, 1))
        self.assert_as_fed(watch, (1, 0))
        self.assertEqual(watch.feed(1), (0, 1))

    def test_deeds_taken_back_within(self):
        watch = fed(Watch(DOOR, HOLD, HOLDER), 1, 0, 1)
        with watch.trial():
            watch.back(many=2)
            self.assert_as_fed(watch, (1,))
            fed(watch, 1, 1, 0, 0)
            self.assert_as_fed(watch, (1, 1, 1, 0, 0))
            watch.back(many=5)
        self.assert_as_fed(watch, (1, 0, 1))
        with watch.trial():
            watch.back(many=3)
            fed(watch, 0, 0, 0)
        self.assert_as_fed(watch, (1, 0, 1))

    def test_a_block_that_ends_with_an_error(self):
        watch = fed(Watch(DOOR, HOLD, HOLDER), 1)
        for error in (ValueError, Nothing, OutOfPlace, KeyboardInterrupt, StopIteration):
            with self.assertRaises(error):
                with watch.trial() as held:
                    fed(held, 0, 0)
                    raise error("x")
            self.assert_as_fed(watch, (1,))
        with self.assertRaises(OutOfPlace):
            with watch.trial():
                fed(watch, 0, 1, 2)
        with self.assertRaises(Nothing):
            with watch.trial():
                watch.back(many=1)
                watch.back()
        self.assert_as_fed(watch, (1,))

    def test_a_block_that_ends_early(self):
        watch = fed(Watch(DOOR, HOLD, HOLDER), 1)

        def left():
            with watch.trial() as held:
                return held.feed(0)

        self.assertEqual(left(), ())
        for _ in range(3):
            with watch.trial():
                fed(watch, 0, 1)
                break
        self.assert_as_fed(watch, (1,))

    def test_trials_within_trials(self):
        watch = fed(Watch(DOOR, HOLD, HOLDER), 1)
        with watch.trial() as outer:
            fed(outer, 0)
            with outer.trial() as inner:
                fed(inner, 1, 0, 0)
                with inner.trial():
                    inner.back(many=5)
                    self.assert_as_fed(watch, ())
                self.assert_as_fed(watch, (1, 0, 1, 0, 0))
            self.assert_as_fed(watch, (1, 0))
            fed(watch, 1)
            with watch.trial():
                watch.back(many=3)
            self.assert_as_fed(watch, (1, 0, 1))
        self.assert_as_fed(watch, (1,))

    def test_an_error_through_trials(self):
        watch = fed(Watch(DOOR, HOLD, HOLDER), 1)
        with watch.trial():
            fed(watch, 0)
            with self.assertRaises(ValueError):
                with watch.trial():
                    fed(watch, 1)
                    with watch.trial():
                        fed(watch, 1)
                        raise ValueError
            self.assert_as_fed(watch, (1, 0))
        self.assert_as_fed(watch, (1,))

    def test_when_the_block_begins(self):
        watch = fed(Watch(DOOR, HOLD, HOLDER), 1)
        trial = watch.trial()
        fed(watch, 0)
        with trial:
            fed(watch, 1, 1)
        self.assert_as_fed(watch, (1, 0))
        fed(watch, 1)
        self.assert_as_fed(watch, (1, 0, 1))

    def test_a_trial_that_is_not_begun(self):
        watch = fed(Watch(DOOR, HOLD, HOLDER), 1)
        watch.trial()
        fed(watch, 0)
        self.assert_as_fed(watch, (1, 0))

    def test_two_watches_at_once(self):
        one, other = Watch(DOOR, HOLD, HOLDER), Watch(DOOR, (0, 1, ()), SHUTTER)
        fed(one, 0)
        with one.trial() as held, other.trial() as beside:
            fed(held, 1)
            fed(beside, 0, 1)
        self.assert_as_fed(one, (0,))
        self.assert_as_fed(other, ())

    def test_the_word_behind_a_trial(self):
        watch = Watch(DOOR, FREE, OPEN_TO_ALL)
        with watch.trial():
            fed(watch, 0)
            self.assertEqual(watch.word, "good")
        self.assertIsNone(watch.word)
        fed(watch, 0)
        with watch.trial():
            watch.back()
            self.assertIsNone(watch.word)
        self.assertEqual(watch.word, "good")

    def test_behind_a_trial_all_goes_on(self):
        watch = Watch(DOOR, HOLD, HOLDER)
        for many in range(30):
            with watch.trial():
                fed(watch, 0, 0, 1)
            fed(watch, many % 2)
            watch.back()
            fed(watch, many % 2)
        self.assert_as_fed(watch, (0, 1) * 15)


class Under(Watches):
    def test_what_it_returns(self):
        watch = fed(Watch(DOOR, HOLD, HOLDER), 1)
        self.assertEqual(under(watch, lambda held: held.feed(0)), ())
        self.assertEqual(under(deed=lambda held: fed(held, 0, 1).output, watch=watch), (1, 0, 1))
        self.assertEqual(under(watch, len), 1)
        self.assertIsNone(under(watch, Watch.back))
        self.assertIs(under(watch, lambda held: held), watch)
        self.assert_as_fed(watch, (1,))

    def test_called_once_with_the_watch_itself(self):
        watch, seen = Watch(DOOR, HOLD, HOLDER), []
        under(watch, seen.append)
        self.assertEqual(len(seen), 1)
        self.assertIs(seen[0], watch)

    def test_an_error(self):
        watch = fed(Watch(DOOR, HOLD, HOLDER), 1)

        def broken(held):
            held.back()
            fed(held, 0, 0)
            raise KeyError("x")

        with self.assertRaises(KeyError):
            under(watch, broken)
        self.assert_as_fed(watch, (1,))
        with self.assertRaises(OutOfPlace):
            under(watch, lambda held: fed(held, 1, 2))
        with self.assertRaises(Nothing):
            under(watch, lambda held: held.back(many=2))
        self.assert_as_fed(watch, (1,))

    def test_under_within(self):
        watch = fed(Watch(DOOR, HOLD, HOLDER), 1)

        def twice(held):
            fed(held, 0)
            shown = under(held, lambda inner: fed(inner, 1).output)
            return shown, held.run

        self.assertEqual(under(watch, twice), ((1, 0, 1), (1, 0)))
        self.assert_as_fed(watch, (1,))

    def test_things_that_can_be_called(self):
        class Asked:
            def __call__(self, held):
                return held.run

            def told(self, held):
                return held.memory

        watch = fed(Watch(DOOR, HOLD, HOLDER), 0)
        self.assertEqual(under(watch, Asked()), (0,))
        self.assertEqual(under(watch, Asked().told), 1)
        self.assertIs(under(watch, type), Watch)

    def test_what_is_no_watch(self):
        asked = []
        for thing in (*no_integers(), 0, 1, DOOR, HOLDER, (1, 0), Watch, lambda held: held):
            for ask in (lambda: under(thing, asked.append),
                        lambda: under(deed=asked.append, watch=thing), lambda: under(thing, None)):
                with self.assertRaises(OutOfPlace) as caught:
                    ask()
                self.assertIs(caught.exception.__class__, OutOfPlace)
        self.assertEqual(asked, [])

    def test_what_cannot_be_called(self):
        watch = fed(Watch(DOOR, HOLD, HOLDER), 1)
        for thing in (None, True, 0, 1, -5, 1.5, 1j, "x", "", b"x", (), (0,), [], [len], {}, {0: 1},
                      {0}, frozenset(), range(2), object(), watch, Watch(DOOR, HOLD, HOLDER)):
            for ask in (lambda: under(watch, thing), lambda: under(deed=thing, watch=watch)):
                with self.assertRaises(OutOfPlace):
                    ask()
            self.assert_as_fed(watch, (1,))


class Wrong(Watches):
    def test_the_first_wrong_thing_is_refused(self):
        for wish, kind, guard, error, part in (
                (None, None, None, BadWish, "form"), (DOOR, None, None, BadKind, "form"),
                (DOOR, HOLD, None, BadGuard, "form"), (DOOR[:2], HOLD, HOLDER, BadWish, "form"),
                (DOOR, (1, 0, (2,)), HOLDER, BadKind, "loose"),
                (DOOR, HOLD, (((0, (2,)), (0, ())),), BadGuard, "shown"),
                (DOOR, HOLD, (((1, ()), (0, ())),), BadGuard, "next"),
                (DOOR, HOLD, (((0, ()),),), BadGuard, "form")):
            for ask in (lambda: Watch(wish, kind, guard),
                        lambda: Watch(guard=guard, wish=wish, kind=kind)):
                with self.assertRaises(error) as caught:
                    ask()
                self.assertIs(caught.exception.__class__, error)
                self.assertEqual(caught.exception.part, part)


if __name__ == "__main__":
    unittest.main()
