"""Parts of WISHES, WISHES that are alike, and the KEPT PART."""

import copy
import itertools
import random
import unittest

import told
from guardkeeps.games import can_be_kept
from guardkeeps.parts import are_alike, is_part, kept_part, parting
from guardkeeps.wishes import need_wish
from things import ALL_GOOD, DOOR, MIXED, ROUND, drawn_wish, drawn_wishes

# Nothing but deeds 0 is GOOD; the same, told with more states.
ONLY_0 = (2, ((0, 1), (1, 1)), (0,))
ONLY_0_LONG = (2, ((2, 1), (3, 1), (4, 3), (1, 3), (0, 3)), (0, 2, 4))
EVERYTHING = (2, ((0, 0),), (0,))

# The door as DOOR has it, and a chain that may be put on while it is shut, for good.
CHAINED = (3, ((1, 0, 2), (3, 0, 3), (2, 2, 2), (3, 3, 3)), (0, 1, 2))


def small_wishes():
    """All wishes of two deeds and at most two states."""
    return [(2, tuple(rows), good) for states in (1, 2)
            for rows in itertools.product(
                itertools.product(range(states), repeat=2), repeat=states)
            for good in ((0,), (0, 1))[:states]]


def drawn_pairs(seed, times):
    """Pairs of wishes with as many deeds; some are nearly alike."""
    draw = random.Random(seed)
    pairs = []
    for wish in drawn_wishes(seed, times):
        deeds, steps, good = wish
        pairs.append((wish, drawn_wish(draw, deeds, draw.randrange(1, 7))))
        more = tuple(sorted({*good, draw.randrange(len(steps))}))
        pairs.append((wish, (deeds, steps, more)))
        pairs.append((wish, renumbered(draw, wish)))
    return pairs


def renumbered(draw, wish):
    """The same wish with other numbers for its states but 0."""
    deeds, steps, good = wish
    numbers = [0, *draw.sample(range(1, len(steps)), len(steps) - 1)]
    rows = [()] * len(steps)
    for state, row in enumerate(steps):
        rows[numbers[state]] = tuple(numbers[behind] for behind in row)
    return (deeds, tuple(rows), tuple(sorted(numbers[state] for state in good)))


def all_pairs_of_states(wish, other):
    """A RUN to each pair of states that comes, none with more deeds than it needs."""
    found, runs = {}, [()]
    for run in runs:
        pair = (told.led_to(wish, 0, run), told.led_to(other, 0, run))
        if pair not in found:
            found[pair] = run
            runs.extend((*run, deed) for deed in range(wish[0]))
    return found


class IsPart(unittest.TestCase):
    def test_by_hand(self):
        self.assertIs(is_part(ONLY_0, EVERYTHING), True)
        self.assertIs(is_part(EVERYTHING, ONLY_0), False)
        self.assertIs(is_part(ONLY_0, ONLY_0_LONG), True)
        self.assertIs(is_part(ONLY_0_LONG, ONLY_0), True)
        self.assertIs(is_part(DOOR, EVERYTHING), True)
        self.assertIs(is_part(DOOR, ONLY_0), False)
        self.assertIs(is_part(ONLY_0, DOOR), False)
        self.assertIs(is_part(ALL_GOOD, ALL_GOOD), True)

    def test_of_itself(self):
        for wish in drawn_wishes(61, 3):
            self.assertIs(is_part(wish, wish), True)

    def test_good_states_that_do_not_come(self):
        wish = (1, ((0,), (1,)), (0, 1))
        self.assertIs(is_part(wish, (1, ((0,), (1,)), (0,))), True)
        self.assertIs(is_part((1, ((1,), (1,)), (0, 1)), (1, ((1,), (1,)), (0,))), False)

    def test_counted(self):
        for wish, other in drawn_pairs(62, 4):
            expected = all(not told.is_good(wish, 0, run) or told.is_good(other, 0, run)
                           for run in all_pairs_of_states(wish, other).values())
            self.assertIs(is_part(wish, other), expected, (wish, other))

    def test_by_name(self):
        self.assertIs(is_part(other=EVERYTHING, wish=ONLY_0), True)
        self.assertIs(is_part(other=ONLY_0, wish=EVERYTHING), False)


class AreAlike(unittest.TestCase):
    def test_by_hand(self):
        self.assertIs(are_alike(ONLY_0, ONLY_0_LONG), True)
        self.assertIs(are_alike(ONLY_0_LONG, ONLY_0), True)
        self.assertIs(are_alike(ONLY_0, EVERYTHING), False)
        self.assertIs(are_alike(EVERYTHING, ONLY_0), False)

    def test_renumbered(self):
        draw = random.Random(63)
        for wish in drawn_wishes(63, 3):
            self.assertIs(are_alike(wish, renumbered(draw, wish)), True)

    def test_each_a_part_of_the_other(self):
        for wish, other in drawn_pairs(64, 4):
            both = is_part(wish, other) and is_part(other, wish)
            self.assertIs(are_alike(wish, other), both)
            self.assertIs(are_alike(other, wish), both)

    def test_by_name(self):
        self.assertIs(are_alike(other=ONLY_0_LONG, wish=ONLY_0), True)


class Parting(unittest.TestCase):
    def test_by_hand(self):
        self.assertIsNone(parting(ONLY_0, ONLY_0_LONG))
        self.assertEqual(parting(ONLY_0, EVERYTHING), (1,))
        self.assertEqual(parting(EVERYTHING, DOOR), (0,))
        self.assertEqual(parting(DOOR, EVERYTHING), (0,))
        self.assertEqual(parting(ROUND, EVERYTHING), (1,))

    def test_good_in_the_one_or_in_the_other(self):
        shut = (2, ((1, 0), (1, 1)), (0,))
        self.assertEqual(parting(DOOR, shut), (0, 1))
        self.assertEqual(parting(shut, DOOR), (0, 1))

    def test_the_fewest_deeds_are_first(self):
        # (0, 0) and (1,) part these; in the order of tuples (0, 0) stands ahead.
        wish = (2, ((1, 2), (2, 1), (2, 2)), (0, 1))
        self.assertEqual(parting(wish, (2, ((0, 0),), (0,))), (1,))

    def test_ascending_among_as_many(self):
        wish = (2, ((1, 1), (2, 2), (2, 2)), (0, 1))
        self.assertEqual(parting(wish, EVERYTHING), (0, 0))
        wish = (3, ((0, 1, 2), (0, 3, 3), (3, 0, 3), (3, 3, 3)), (0, 1, 2))
        self.assertEqual(parting(wish, (3, ((0, 0, 0),), (0,))), (1, 1))

    def test_a_long_one(self):
        five = (1, ((1,), (2,), (3,), (4,), (0,)), (0,))
        six = (1, ((1,), (2,), (3,), (4,), (5,), (0,)), (0,))
        self.assertEqual(parting(five, six), (0,) * 5)
        high = (1, ((1,), (2,), (3,), (4,), (0,)), (0, 1, 2, 3))
        self.assertEqual(parting(high, (1, six[1], (0, 1, 2, 3))), (0,) * 5)
        # The first number of deeds that is 4 by fives, but 3 by sixes.
        self.assertEqual(parting(high, (1, six[1], (0, 1, 2, 3, 5))), (0,) * 9)

    def test_counted(self):
        for wish, other in drawn_pairs(65, 4):
            apart = [run for run in all_pairs_of_states(wish, other).values()
                     if told.is_good(wish, 0, run) != told.is_good(other, 0, run)]
            found = parting(wish, other)
            if not apart:
                self.assertIsNone(found)
                continue
            self.assertEqual(len(found), min(map(len, apart)))
            if wish[0] ** len(found) < 5000:
                expected = next(run for run in told.lots(wish[0], len(found))
                                if told.is_good(wish, 0, run) != told.is_good(other, 0, run))
                self.assertEqual(found, expected, (wish, other))

    def test_by_name(self):
        self.assertEqual(parting(other=EVERYTHING, wish=ONLY_0), (1,))

    def test_equal_calls(self):
        for wish, other in drawn_pairs(66, 1):
            kept = copy.deepcopy((wish, other))
            self.assertEqual(parting(wish, other), parting(*kept))
            self.assertEqual(is_part(wish, other), is_part(*kept))
            self.assertEqual((wish, other), kept)


class KeptPart(unittest.TestCase):
    def test_without_one_more_state(self):
        self.assertEqual(kept_part(ALL_GOOD, ()), ALL_GOOD)
        self.assertEqual(kept_part(ALL_GOOD, (0,)), ALL_GOOD)
        everything = (2, ((1, 0), (0, 1), (0, 0)), (0, 1))
        self.assertEqual(kept_part(everything, (0,)), (2, ((1, 0), (0, 1)), (0, 1)))

    def test_with_one_more_state(self):
        self.assertEqual(kept_part(ONLY_0, ()), ONLY_0)
        self.assertEqual(kept_part(ONLY_0, (0,)), ONLY_0)
        self.assertEqual(kept_part(DOOR, ()), (2, ((1, 0), (1, 1)), (0,)))
        self.assertEqual(kept_part(DOOR, (1,)), (2, ((1, 0), (1, 1)), (0,)))
        self.assertEqual(kept_part(ROUND, ()), (2, ((0, 1), (1, 1)), (0,)))

    def test_loose_deeds_that_lead_out(self):
        self.assertEqual(kept_part(CHAINED, ()), (
            3, ((1, 0, 2), (3, 0, 3), (2, 2, 2), (3, 3, 3)), (0, 1, 2)))
        # If deed 0 cannot be stopped, the door is broken by it at last.
        self.assertIsNone(kept_part(CHAINED, (0,)))
        # If deed 2 cannot be stopped, the door may not be opened.
        self.assertEqual(kept_part(CHAINED, (2,)), (
            3, ((2, 0, 1), (1, 1, 1), (2, 2, 2)), (0, 1)))
        self.assertEqual(kept_part(CHAINED, (1,)), kept_part(CHAINED, ()))

    def test_none(self):
        self.assertIsNone(kept_part(ONLY_0, (1,)))
        self.assertIsNone(kept_part(DOOR, (0,)))
        self.assertIsNone(kept_part(DOOR, (0, 1)))
        # Two LOOSE deeds lead out at last.
        self.assertIsNone(kept_part((1, ((1,), (2,), (2,)), (0, 1)), (0,)))
        self.assertIsNone(kept_part((2, ((1, 0), (1, 2), (2, 2)), (0, 1)), (0, 1)))

    def test_numbered_anew_in_their_order(self):
        # Good are 0, 1, 3 and 5; of these 1 does not come. Deed 0 leads to 5 first, then to 3.
        wish = (2, ((5, 2), (0, 0), (3, 3), (0, 4), (2, 0), (3, 3)), (0, 1, 3, 5))
        self.assertEqual(kept_part(wish, ()), (2, ((2, 3), (0, 3), (1, 1), (3, 3)), (0, 1, 2)))

    def test_good_states_that_come_through_others_alone_are_none(self):
        wish = (1, ((1,), (2,), (0,)), (0, 2))
        self.assertEqual(kept_part(wish, ()), (1, ((1,), (1,)), (0,)))

    def test_six_states(self):
        steps = tuple(((state + 1) % 6, state) for state in range(6))
        self.assertEqual(kept_part((2, steps, (0, 1, 2, 3, 4, 5)), (0, 1)),
                         (2, steps, (0, 1, 2, 3, 4, 5)))
        five = kept_part((2, steps, (0, 1, 2, 3, 4)), (1,))
        self.assertEqual(five, (2, (*steps[:5], (5, 5)), (0, 1, 2, 3, 4)))

    def test_a_run_is_good_exactly_if_no_loose_deeds_lead_out_on_the_way(self):
        for wish in drawn_wishes(67, 3):
            loose_lots = [lot for size in range(wish[0] + 1)
                          for lot in itertools.combinations(range(wish[0]), size)]
            for loose in loose_lots:
                part = kept_part(wish, loose)
                sure = {state for state in range(len(wish[1]))
                        if self.stays_good(wish, state, loose)}
                self.assertEqual(part is None, 0 not in sure, (wish, loose))
                for run in told.lots(wish[0], 4 if wish[0] < 4 else 3):
                    come = {told.led_to(wish, 0, run[:many]) for many in range(len(run) + 1)}
                    if part is not None:
                        self.assertIs(told.is_good(part, 0, run), come <= sure, (wish, loose, run))

    def stays_good(self, wish, state, loose):
        """Whether no LOOSE deeds, however many, lead from a state to one that is not GOOD."""
        seen, new = set(), {state}
        while new:
            seen |= new
            new = {wish[1][each][deed] for each in new for deed in loose} - seen
        return seen <= set(wish[2])

    def test_it_is_a_part_that_can_be_kept(self):
        for wish in drawn_wishes(68, 6):
            for loose in ((), (0,), tuple(range(wish[0]))):
                part = kept_part(wish, loose)
                if part is not None:
                    self.assertIs(need_wish(part), part)
                    self.assertIs(is_part(part, wish), True)
                    self.assertIs(can_be_kept(part, (0, 0, loose)), True)
                if can_be_kept(wish, (0, 0, loose)):
                    self.assertIs(are_alike(part, wish), True)

    def test_it_is_the_greatest_one(self):
        tried = 0
        for loose in ((), (0,), (1,)):
            others = [other for other in small_wishes() if can_be_kept(other, (0, 0, loose))]
            for wish in drawn_wishes(69, 12):
                if wish[0] == 2:
                    part = kept_part(wish, loose)
                    for other in others:
                        if is_part(other, wish):
                            tried += 1
                            self.assertIsNotNone(part, (wish, loose, other))
                            self.assertIs(is_part(other, part), True, (wish, loose, other))
        self.assertGreater(tried, 100)

    def test_told_so(self):
        for wish in drawn_wishes(70, 6):
            for loose in ((), (wish[0] - 1,)):
                part = kept_part(wish, loose)
                if part is None:
                    continue
                deeds, steps, good = part
                self.assertEqual(deeds, wish[0])
                self.assertEqual(good, tuple(range(len(good))))
                out = len(good)
                leads_out = any(out in row for row in steps[:out])
                self.assertEqual(len(steps), out + 1 if leads_out else out)
                if leads_out:
                    self.assertEqual(steps[out], (out,) * deeds)

    def test_of_itself(self):
        for wish in drawn_wishes(71, 4):
            part = kept_part(wish, (0,))
            if part is not None:
                self.assertEqual(kept_part(part, (0,)), part)

    def test_by_name(self):
        self.assertEqual(kept_part(loose=(1,), wish=ONLY_0_LONG), None)
        self.assertEqual(kept_part(loose=(0,), wish=ONLY_0), ONLY_0)

    def test_equal_calls(self):
        for wish in drawn_wishes(72, 1):
            kept = copy.deepcopy(wish)
            self.assertEqual(kept_part(wish, (0,)), kept_part(kept, (0,)))
            self.assertEqual(wish, kept)

    def test_mixed(self):
        self.assertEqual(kept_part(MIXED, ()), (2, ((1, 1), (1, 1)), (0,)))


if __name__ == "__main__":
    unittest.main()
