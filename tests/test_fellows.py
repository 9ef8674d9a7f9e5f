"""GUARDS beside one another: ALIKE, LEAST, JOINED, and the GUARD of a paper."""

import copy
import itertools
import random
import unittest

import told
from guardkeeps.errors import BadPaper, OutOfPlace, TooMany
from guardkeeps.fellows import are_fellows, guard_of, joined, least, parting_run
from guardkeeps.games import check_kept, kept_paper, led
from guardkeeps.guards import need_guard, output
from guardkeeps.judges import keeps
from things import (
    ALL_GOOD, CLOSED_TO_ALL, DOOR, HOLDER, OPEN_TO_ALL, SHUTTER, changed_guard, drawn_games,
    drawn_guard)

FREE = (0, 0, ())

# Shows each deed twice, and the deeds of every second time alone.
TWICE = (((0, (0, 0)), (0, (1, 1))),)
EVERY_SECOND = (((1, ()), (1, ())), ((0, (0,)), (0, (1,))))


def around(many, shown):
    """A guard for one deed that goes round so many memories and shows something at each."""
    return tuple((((memory + 1) % many, shown[memory % len(shown)]),) for memory in range(many))


def renumbered(draw, guard):
    """The same guard with other numbers for its memories but 0."""
    numbers = [0, *draw.sample(range(1, len(guard)), len(guard) - 1)]
    rows = [()] * len(guard)
    for memory, row in enumerate(guard):
        rows[numbers[memory]] = tuple((numbers[behind], shown) for behind, shown in row)
    return tuple(rows)


def with_more(draw, guard):
    """A guard alike: one memory twice, and one that never comes, if there is room for them."""
    if len(guard) > 6:
        return guard
    twin = draw.randrange(len(guard))
    rows = [tuple((len(guard) if behind == twin and draw.random() < 0.5 else behind, shown)
                  for behind, shown in row) for row in (*guard, guard[twin])]
    return (*rows, tuple((draw.randrange(len(guard)), (0,)) for _ in guard[0]))


def drawn_pairs(seed, times):
    """Triples of a number of deeds and two guards for them; some of these are alike."""
    draw = random.Random(seed)
    pairs = []
    for deeds, memories in itertools.product(range(1, 5), range(1, 9)):
        for _ in range(times):
            guard = drawn_guard(draw, deeds, memories)
            changed = changed_guard(draw, guard)
            pairs.append((deeds, guard, drawn_guard(draw, deeds)))
            pairs.append((deeds, guard, changed))
            pairs.append((deeds, guard, renumbered(draw, guard)))
            pairs.append((deeds, guard, with_more(draw, guard)))
            pairs.append((deeds, renumbered(draw, with_more(draw, changed)), guard))
    return pairs


def shown_last(guard, run):
    return told.steps_of(guard, run)[-1][1]


def parting_runs(guard, other):
    """RUNS at whose last deed two guards show unlike things, one of the shortest among them."""
    return [(*run, deed) for run in told.memory_pairs(guard, other).values()
            for deed in range(len(guard[0]))
            if shown_last(guard, (*run, deed)) != shown_last(other, (*run, deed))]


class AreFellows(unittest.TestCase):
    def test_by_hand(self):
        for deeds, guard, other, expected in (
                (2, HOLDER, HOLDER, True), (2, HOLDER, SHUTTER, False),
                (2, OPEN_TO_ALL, OPEN_TO_ALL * 2, True), (2, OPEN_TO_ALL, CLOSED_TO_ALL, False),
                (1, around(2, [(), (0,)]), around(8, [(), (0,)]), True),
                (1, around(2, [(), (0,)]), around(3, [(), (0,)]), False),
                (1, around(7, [()]), around(8, [()]), True)):
            self.assertIs(are_fellows(deeds, guard, other), expected)
            self.assertIs(are_fellows(deeds, other, guard), expected)
            self.assertIs(are_fellows(other=guard, deeds=deeds, guard=other), expected)

    def test_the_same_output_at_other_deeds_is_not_alike(self):
        late = (((1, ()),), ((0, (0, 0)),))
        early = (((1, (0, 0)),), ((0, ()),))
        self.assertIs(are_fellows(1, late, early), False)

    def test_counted(self):
        found = set()
        for deeds, guard, other in drawn_pairs(95, 2):
            kept = copy.deepcopy((guard, other))
            expected = not parting_runs(guard, other)
            self.assertIs(are_fellows(deeds, guard, other), expected, (guard, other))
            self.assertEqual((guard, other), kept)
            found.add(expected)
        self.assertEqual(found, {True, False})


class PartingRun(unittest.TestCase):
    def test_by_hand(self):
        for deeds, guard, other, expected in (
                (2, HOLDER, HOLDER, None), (2, HOLDER, SHUTTER, (0,)),
                (2, HOLDER, OPEN_TO_ALL, (0,)), (2, OPEN_TO_ALL, CLOSED_TO_ALL, (0,)),
                (2, HOLDER, EVERY_SECOND, (1,)), (2, TWICE, OPEN_TO_ALL, (0,)),
                (2, HOLDER, (*HOLDER[:2], ((2, ()), (2, (1,)))), (0, 0, 1))):
            self.assertEqual(parting_run(deeds, guard, other), expected)
            self.assertEqual(parting_run(deeds, other, guard), expected)
            self.assertEqual(parting_run(other=other, guard=guard, deeds=deeds), expected)

    def test_the_fewest_deeds_are_first(self):
        guard = (((1, ()), (0, (1,))), ((1, (0,)), (0, ())))
        other = (((1, ()), (0, ())), ((1, ()), (0, ())))
        # (0, 0) and (1,) part these; in the order of tuples (0, 0) stands ahead.
        self.assertEqual(parting_run(2, guard, other), (1,))

    def test_ascending_among_as_many(self):
        # (0, 2), (1, 0) and (1, 1) part these.
        guard = (((1, ()), (2, ()), (0, ())), ((0, ()), (0, ()), (0, (2,))),
                 ((0, (0,)), (0, (1,)), (0, ())))
        self.assertEqual(parting_run(3, guard, (((0, ()), (0, ()), (0, ())),)), (0, 2))

    def test_a_long_one(self):
        self.assertEqual(parting_run(1, around(7, [()] * 6 + [(0,)]), around(8, [()])), (0,) * 7)
        self.assertEqual(parting_run(1, around(7, [()] * 6 + [(0,)]),
                                     around(8, [()] * 6 + [(0,), ()])), (0,) * 14)

    def test_counted(self):
        for deeds, guard, other in drawn_pairs(96, 2):
            kept = copy.deepcopy((guard, other))
            found = parting_run(deeds, guard, other)
            apart = parting_runs(guard, other)
            self.assertEqual(found is None, not apart)
            if found is not None:
                self.assertEqual(len(found), min(map(len, apart)))
                self.assertNotEqual(shown_last(guard, found), shown_last(other, found))
                if deeds ** len(found) < 3000:
                    expected = next(run for run in told.lots(deeds, len(found))[1:]
                                    if shown_last(guard, run) != shown_last(other, run))
                    self.assertEqual(found, expected)
            self.assertEqual((guard, other), kept)
            self.assertEqual(parting_run(deeds, *kept), found)


class Least(unittest.TestCase):
    def tells(self, deeds, guard, expected):
        self.assertEqual(least(deeds, guard), expected)
        self.assertEqual(least(guard=guard, deeds=deeds), expected)

    def test_by_hand(self):
        for guard in (HOLDER, SHUTTER, OPEN_TO_ALL, CLOSED_TO_ALL, TWICE, EVERY_SECOND):
            self.tells(2, guard, guard)
        self.tells(2, OPEN_TO_ALL * 8, OPEN_TO_ALL)
        self.tells(1, around(8, [(), (0,)]), around(2, [(), (0,)]))
        self.tells(1, around(8, [()] * 7 + [(0,)]), around(8, [()] * 7 + [(0,)]))
        self.tells(1, around(6, [(), (), (0,)]), around(3, [(), (), (0,)]))

    def test_memories_that_never_come(self):
        never = (((3, (0, 1)), (4, ())), ((4, ()), (0, ())))
        self.tells(2, (*HOLDER, *never), HOLDER)

    def test_the_same_memory_twice(self):
        self.tells(2, (((1, ()), (3, (1,))), ((2, ()), (0, (0, 1))), ((2, ()), (2, ())),
                       ((1, ()), (0, (1,)))), HOLDER)

    def test_numbered_as_they_first_come(self):
        wide = (((2, ()), (3, (0,)), (1, (1,))), ((1, (1, 1)), (1, ()), (1, ())),
                ((2, (2,)), (2, ()), (2, ())), ((3, (0, 0)), (3, ()), (3, ())))
        self.tells(3, wide, (((1, ()), (2, (0,)), (3, (1,))), ((1, (2,)), (1, ()), (1, ())),
                             ((2, (0, 0)), (2, ()), (2, ())), ((3, (1, 1)), (3, ()), (3, ()))))
        # A memory that comes by (1,) stands ahead of one that comes by (0, 0).
        deep = (((1, ()), (3, ())), ((2, (0,)), (1, ())), ((2, (1,)), (2, ())),
                ((3, (0, 1)), (3, ())))
        self.tells(2, deep, (((1, ()), (2, ())), ((3, (0,)), (1, ())), ((2, (0, 1)), (2, ())),
                             ((3, (1,)), (3, ()))))

    def test_drawn(self):
        draw = random.Random(97)
        fewer = 0
        for deeds, guard, _ in drawn_pairs(97, 2):
            kept = copy.deepcopy(guard)
            made = least(deeds, guard)
            need_guard(deeds, made)
            self.assertIs(are_fellows(deeds, guard, made), True)
            self.assert_all_come_in_order(made)
            self.assert_all_unlike(deeds, made)
            self.assertEqual(least(deeds, made), made)
            self.assertEqual(least(deeds, renumbered(draw, with_more(draw, guard))), made)
            self.assertEqual(guard, kept)
            fewer += len(made) < len(guard)
        self.assertGreater(fewer, 20)

    def assert_all_come_in_order(self, guard):
        """Whether the memories are numbered by the first RUN to each."""
        first = {0: ()}
        for run in told.memory_pairs(guard, guard).values():
            for deed in range(len(guard[0])):
                memory = told.steps_of(guard, (*run, deed))[-1][2]
                longer = (*run, deed)
                first[memory] = min(first.get(memory, longer), longer,
                                    key=lambda each: (len(each), each))
        self.assertEqual(sorted(first), list(range(len(guard))))
        order = sorted(first, key=lambda memory: (len(first[memory]), first[memory]))
        self.assertEqual(order, list(range(len(guard))), guard)

    def assert_all_unlike(self, deeds, guard):
        """With each memory as the first one the guards are unlike, so there are none too many."""
        for one, two in itertools.combinations(range(len(guard)), 2):
            starts = [swapped(guard, memory) for memory in (one, two)]
            self.assertTrue(parting_runs(*starts), guard)

    def test_no_alike_one_has_fewer(self):
        shows = [(), (0,)]
        pairs = list(itertools.product(range(2), shows))
        small = [((pair,),) for pair in itertools.product(range(1), shows)]
        middle = [tuple((pair,) for pair in two) for two in itertools.product(pairs, repeat=2)]
        for guard in middle:
            made = least(1, guard)
            alike = [other for other in (*small, *middle) if not parting_runs(guard, other)]
            self.assertEqual(len(made), min(map(len, alike)))
            self.assertIn(made, alike)


def swapped(guard, memory):
    """The guard with a memory as the first one."""
    numbers = list(range(len(guard)))
    numbers[0], numbers[memory] = memory, 0
    return tuple(tuple((numbers[behind], shown) for behind, shown in guard[numbers[at]])
                 for at in range(len(guard)))


class Joined(unittest.TestCase):
    def tells(self, deeds, guard, other, expected):
        self.assertEqual(joined(deeds, guard, other), expected)
        self.assertEqual(joined(other=other, guard=guard, deeds=deeds), expected)

    def test_by_hand(self):
        for guard in (HOLDER, SHUTTER, CLOSED_TO_ALL, TWICE, EVERY_SECOND):
            self.tells(2, OPEN_TO_ALL, guard, guard)
            self.tells(2, guard, OPEN_TO_ALL, guard)
            self.tells(2, CLOSED_TO_ALL, guard, CLOSED_TO_ALL)
        self.tells(2, TWICE, TWICE, (((0, (0,) * 4), (0, (1,) * 4)),))
        self.tells(2, TWICE, EVERY_SECOND, OPEN_TO_ALL)
        self.tells(2, EVERY_SECOND, TWICE, (((1, ()), (1, ())), ((0, (0, 0)), (0, (1, 1)))))
        self.tells(2, HOLDER, HOLDER, HOLDER)

    def test_the_first_one_is_ahead(self):
        # One puts 1 behind each 0, the other one leaves out each 1.
        more, fewer = (((0, (0, 1)), (0, (1,))),), (((0, (0,)), (0, ())),)
        self.tells(2, more, fewer, (((0, (0,)), (0, ())),))
        self.tells(2, fewer, more, (((0, (0, 1)), (0, ())),))

    def test_it_may_have_more_memories_than_are_least(self):
        self.tells(1, around(2, [()]), around(4, [()]), around(2, [()]))
        self.tells(1, around(2, [(0,)]), around(3, [()]), around(6, [()]))

    def test_numbered_as_they_first_come(self):
        first = (((1, (0,)), (0, (1,))), ((0, (0,)), (1, ())))
        second = (((0, (0,)), (1, (1,))), ((1, (1,)), (0, ())))
        self.tells(2, first, second, (
            ((1, (0,)), (2, (1,))), ((0, (0,)), (1, ())), ((3, (1,)), (0, ())),
            ((2, (1,)), (3, ()))))

    def test_exactly_eight_pairs_and_nine(self):
        self.tells(1, around(8, [(0,)]), around(8, [(0,)]), around(8, [(0,)]))
        self.tells(1, around(8, [(0,)]), around(4, [()]), around(8, [()]))
        self.tells(1, around(2, [(0,)]), around(8, [()]), around(8, [()]))
        self.too_many(8, 1, around(3, [(0,)]), around(4, [(0,)]))
        self.too_many(8, 1, around(8, [(0,)]), around(7, [(0,)]))
        # Nine pairs: three memories by three, one of the deeds alone asks the other one.
        one = tuple((((memory + 1) % 3, ()), (memory, (1,))) for memory in range(3))
        two = tuple(((memory, (0,)), ((memory + 1) % 3, (1,))) for memory in range(3))
        self.assertEqual(len(told.memory_pairs(one, one)), 3)
        self.too_many(8, 2, one, two)

    def test_eight_pairs_of_more_that_there_are(self):
        one = tuple((((memory + 1) % 4, ()), (memory, (1,))) for memory in range(4))
        two = tuple(((memory, (0,)), (1 - memory, (1,))) for memory in range(2))
        made = joined(2, one, two)
        self.assertEqual(len(made), 8)
        self.assertEqual(len(joined(2, one, two + OPEN_TO_ALL * 6)), 8)

    def test_exactly_six_deeds_and_seven(self):
        three = (((0, (0, 0, 0)),),)
        self.tells(1, (((0, (0, 0)),),), three, (((0, (0,) * 6),),))
        self.tells(1, three, (((0, (0, 0)),),), (((0, (0,) * 6),),))
        self.too_many(6, 1, three, three)
        six, seven = (((0, (0,) * 6),),), (((1, (0, 0)),), ((0, (0,) * 4),))
        self.tells(1, six, around(6, [(0,)] + [()] * 5), (((0, (0,)),),))
        self.tells(1, (((0, (0, 0)),),), (((1, (0, 0)),), ((0, (0,) * 4),)), (((0, (0,) * 6),),))
        self.too_many(6, 1, six, seven)
        # Seven deeds, at the last memory alone.
        self.too_many(6, 2, (((1, (0,)), (0, (1,))), ((1, (0,) * 6), (0, (1,)))),
                      (((0, (0,)), (1, (1,))), ((1, (0, 0)), (1, (1,)))))

    def test_seven_deeds_of_a_memory_that_never_comes(self):
        never = (((1, (0,)),), ((1, (0,) * 6),))
        self.tells(1, (((0, (0,)),),), (((0, (0,)),), ((1, (0,) * 6),)), (((0, (0,)),),))
        self.too_many(6, 1, never, (((0, (0, 0)),),))

    def test_too_many_of_both(self):
        # Twelve pairs of memories, which show up to 36 deeds.
        self.too_many(8, 1, around(3, [(0,) * 4]), around(5, [(0,) * 6]))
        self.too_many(8, 1, around(8, [(0,) * 6]), around(7, [(0,) * 6]))

    def too_many(self, most, deeds, guard, other):
        for ask in (lambda: joined(deeds, guard, other),
                    lambda: joined(other=other, guard=guard, deeds=deeds)):
            with self.assertRaises(TooMany) as caught:
                ask()
            self.assertIs(caught.exception.__class__, TooMany)
            self.assertEqual(caught.exception.most, most)

    def test_drawn(self):
        draw = random.Random(98)
        ends = {}
        for deeds, guard, other in drawn_pairs(98, 3):
            kept = copy.deepcopy((guard, other))
            pairs = self.pairs_that_come(guard, other)
            shown_at = [self.shown_by_both(pair, deed, guard, other)
                        for pair in pairs for deed in range(deeds)]
            end = None
            if len(pairs) > 8 or max(map(len, shown_at)) > 6:
                end = 8 if len(pairs) > 8 else 6
                self.too_many(end, deeds, guard, other)
            else:
                made = joined(deeds, guard, other)
                self.assertEqual(need_guard(deeds, made), made)
                self.assertEqual(len(made), len(pairs))
                for _ in range(20):
                    run = tuple(draw.randrange(deeds) for _ in range(draw.randrange(8)))
                    self.assertEqual(output(deeds, made, run), told_output(
                        other, told_output(guard, run)))
                Least.assert_all_come_in_order(self, made)
            ends[end] = ends.get(end, 0) + 1
            self.assertEqual((guard, other), kept)
        self.assertEqual(set(ends), {None, 6, 8})

    def pairs_that_come(self, guard, other):
        pairs = [(0, 0)]
        for one, two in pairs:
            for behind, shown in guard[one]:
                beside = two
                for deed in shown:
                    beside = other[beside][deed][0]
                if (behind, beside) not in pairs:
                    pairs.append((behind, beside))
        return pairs

    def shown_by_both(self, pair, deed, guard, other):
        memory, whole = pair[1], ()
        for each in guard[pair[0]][deed][1]:
            memory, shown = other[memory][each]
            whole += shown
        return whole


def told_output(guard, run):
    return tuple(deed for _, shown, _ in told.steps_of(guard, run) for deed in shown)


class GuardOf(unittest.TestCase):
    def test_by_hand(self):
        self.assertEqual(guard_of(DOOR, (1, 0, ()), kept_paper(DOOR, (1, 0, ()))), HOLDER)
        self.assertEqual(guard_of(ALL_GOOD, FREE, ("kept", ((("even", 0), ((0,),)),))),
                         (((0, (0,)),),))
        shut = ("kept", ((("ahead", 1, (1,)), ((), ())), (("even", 0), ((0, 1), (1,))),
                         (("off", 0), ((), ()))))
        self.assertEqual(guard_of(DOOR, (0, 1, ()), shut), SHUTTER)
        self.assertEqual(guard_of(paper=shut, wish=DOOR, kind=(0, 1, ())), SHUTTER)

    def test_positions_that_never_come(self):
        both = ("kept", (
            (("ahead", 1, (1,)), ((), ())), (("behind", 0, (0,)), ((), (0, 1))),
            (("even", 0), ((), (1,))), (("off", 0), ((), ()))))
        self.assertEqual(guard_of(DOOR, (1, 1, ()), both), HOLDER)
        only = ("kept", ((("even", 0), ((0,),)), (("off", 0), ((),))))
        self.assertEqual(guard_of(ALL_GOOD, FREE, only), (((0, (0,)),),))

    def test_six_deeds_shown_at_once(self):
        wish = (1, ((1,), (2,), (3,), (4,), (5,), (0,)), (0,))
        kind = (3, 2, ())
        paper = kept_paper(wish, kind)
        self.assertEqual(guard_of(wish, kind, paper), (
            ((1, ()),), ((2, ()),), ((3, ()),), ((4, (0,) * 6),), ((5, ()),), ((0, ()),)))

    def test_numbered_as_they_first_come(self):
        # ("even", 1) comes by (2,), ("even", 2) by (1,), ("even", 3) by (1, 0).
        wish = (3, ((0, 2, 1), (1, 1, 1), (3, 2, 2), (3, 3, 0)), (0, 1, 2, 3))
        self.assertEqual(guard_of(wish, FREE, kept_paper(wish, FREE)), (
            ((0, (0,)), (1, (1,)), (2, (2,))), ((3, (0,)), (1, (1,)), (1, (2,))),
            ((2, (0,)), (2, (1,)), (2, (2,))), ((3, (0,)), (3, (1,)), (0, (2,)))))

    def test_eight_positions_and_nine(self):
        eight, nine = self.chain(8), self.chain(9)
        self.assertEqual(len(guard_of(*eight)), 8)
        self.assertIs(keeps(*eight[:2], guard_of(*eight)), True)
        self.assertEqual(check_kept(*nine), "kept")
        for ask in (lambda: guard_of(*nine),
                    lambda: guard_of(paper=nine[2], kind=nine[1], wish=nine[0])):
            with self.assertRaises(TooMany) as caught:
                ask()
            self.assertIs(caught.exception.__class__, TooMany)
            self.assertEqual(caught.exception.most, 8)

    def chain(self, many):
        """A wish, a kind, and a paper of which so many POSITIONS come."""
        # Deed 0 goes round five states, deed 1 dooms; but at the last states it leads to 0.
        steps = [((state + 1) % 5, 5 if state < many - 5 else 0) for state in range(5)]
        wish = (2, (*steps, (5, 5)), (0, 1, 2, 3, 4))
        paper = kept_paper(wish, FREE)
        self.assertEqual((paper[0], len(paper[1])), ("kept", many))
        return wish, FREE, paper

    def test_nine_positions_of_which_eight_come(self):
        wish, kind, (word, table) = self.chain(8)
        more = tuple(sorted([*table, (("off", 4), ((), ()))]))
        self.assertEqual(len(more), 9)
        self.assertEqual(guard_of(wish, kind, (word, more)), guard_of(wish, kind, (word, table)))

    def test_lost(self):
        for wish, kind in drawn_games(99, 6):
            paper = kept_paper(wish, kind)
            if paper[0] == "lost":
                for ask in (lambda: guard_of(wish, kind, paper),
                            lambda: guard_of(paper=paper, kind=kind, wish=wish)):
                    with self.assertRaises(OutOfPlace):
                        ask()

    def test_papers_that_do_not_hold(self):
        kept = kept_paper(DOOR, (1, 0, ()))
        lost = kept_paper(DOOR, FREE)
        for kind, paper, part in (
                (FREE, kept, "kept"), ((1, 0, ()), lost, "lost"), ((1, 0, ()), kept[:1], "form"),
                ((1, 0, ()), ("keeps", kept[1]), "form"), ((1, 0, ()), ("lost", kept[1]), "lost"),
                ((1, 0, ()), ("kept", kept[1][1:]), "kept"), (FREE, ("lost", ()), "lost"),
                (FREE, ("kept", lost[1]), "kept"), (FREE, None, "form")):
            for ask in (lambda: guard_of(DOOR, kind, paper),
                        lambda: guard_of(paper=paper, kind=kind, wish=DOOR)):
                with self.assertRaises(BadPaper) as caught:
                    ask()
                self.assertEqual(caught.exception.part, part)

    def test_drawn(self):
        tried = 0
        for wish, kind in drawn_games(100, 12):
            word, table = paper = kept_paper(wish, kind)
            if word == "kept" and len(table) <= 8:
                kept = copy.deepcopy((wish, kind, paper))
                guard = guard_of(wish, kind, paper)
                self.assertEqual(need_guard(wish[0], guard), guard)
                self.assertIs(keeps(wish, kind, guard), True)
                self.assert_shows_the_answers(wish, kind, dict(table), guard)
                Least.assert_all_come_in_order(self, guard)
                self.assertEqual((wish, kind, paper), kept)
                self.assertEqual(guard_of(*kept), guard)
                tried += len(guard) > 2
        self.assertGreater(tried, 10)

    def assert_shows_the_answers(self, wish, kind, shown_at, guard):
        places = {0: ("even", 0)}
        for run in told.memory_pairs(guard, guard).values():
            position, memory = ("even", 0), 0
            for deed in run:
                shown = shown_at[position][deed]
                self.assertEqual(guard[memory][deed][1], shown)
                position = led(wish, kind, position, deed, shown)
                memory = guard[memory][deed][0]
            self.assertEqual(places.setdefault(memory, position), position)
            self.assertEqual(tuple(shown for _, shown in guard[memory]), shown_at[position])
        self.assertEqual(len(set(places.values())), len(guard))


if __name__ == "__main__":
    unittest.main()
