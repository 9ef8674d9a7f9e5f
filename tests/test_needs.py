"""What a WISH wants: the least HOLD, the least AHEAD, and its NEED."""

import copy
import itertools
import unittest

import told
from guardkeeps.games import can_be_kept
from guardkeeps.needs import least_ahead, least_hold, need
from things import ALL_GOOD, DOOR, MIXED, ROUND, drawn_wishes

# After many deeds that are not GOOD, one that is.
TURNS = [(1, tuple(((state + 1) % states,) for state in range(states)), (0,))
         for states in range(1, 7)]


def loose_lots(wish):
    return [loose for size in range(wish[0] + 1)
            for loose in itertools.combinations(range(wish[0]), size)]


def told_longer(wish, most):
    """By how many deeds LIVE RUNS, of at most so many deeds, are longer than they are GOOD."""
    found, runs = set(), [((), 0)]
    for run, longer in runs:
        longer = 0 if told.is_good(wish, 0, run) else longer
        if told.is_live(wish, 0, run):
            found.add(longer)
            if len(run) < most:
                runs.extend(((*run, deed), longer + 1) for deed in range(wish[0]))
    return max(found)


class LeastHold(unittest.TestCase):
    def test_the_door(self):
        self.assertEqual(least_hold(DOOR, 0, ()), 1)
        self.assertEqual(least_hold(DOOR, 1, ()), 0)
        self.assertEqual(least_hold(DOOR, 2, ()), 0)
        self.assertEqual(least_hold(DOOR, 1, (0,)), 0)
        self.assertIsNone(least_hold(DOOR, 0, (0,)))
        self.assertIsNone(least_hold(DOOR, 2, (1,)))
        self.assertIsNone(least_hold(DOOR, 2, (0, 1)))

    def test_turns(self):
        for states, wish in enumerate(TURNS, start=1):
            expected = states - 1 if states <= 4 else None
            self.assertEqual(least_hold(wish, 0, ()), expected)
        # What is held is shown with one deed ahead, before the last deed comes.
        self.assertEqual([least_hold(wish, 1, ()) for wish in TURNS], [0, 0, 1, 2, 3, None])
        self.assertEqual([least_hold(wish, 2, ()) for wish in TURNS], [0, 0, 0, 1, 2, 3])
        self.assertEqual([least_hold(wish, 0, (0,)) for wish in TURNS], [0] + [None] * 5)

    def test_all_good(self):
        for ahead, loose in itertools.product(range(3), ((), (0,))):
            self.assertEqual(least_hold(ALL_GOOD, ahead, loose), 0)

    def test_the_least_one(self):
        for wish in drawn_wishes(51, 2):
            for ahead, loose in itertools.product(range(3), loose_lots(wish)[:6]):
                found = [hold for hold in range(4) if can_be_kept(wish, (hold, ahead, loose))]
                expected = found[0] if found else None
                self.assertEqual(least_hold(wish, ahead, loose), expected, (wish, ahead, loose))

    def test_by_name(self):
        self.assertEqual(least_hold(loose=(), ahead=0, wish=DOOR), 1)
        self.assertEqual(least_hold(DOOR, loose=(0,), ahead=1), 0)


class LeastAhead(unittest.TestCase):
    def test_the_door(self):
        self.assertEqual(least_ahead(DOOR, 0, ()), 1)
        self.assertEqual(least_ahead(DOOR, 1, ()), 0)
        self.assertEqual(least_ahead(DOOR, 3, ()), 0)
        self.assertEqual(least_ahead(DOOR, 0, (0,)), 1)
        self.assertEqual(least_ahead(DOOR, 3, (0,)), 1)
        self.assertIsNone(least_ahead(DOOR, 3, (1,)))

    def test_turns(self):
        self.assertEqual([least_ahead(wish, 0, ()) for wish in TURNS], [0, 1, 2, None, None, None])
        self.assertEqual([least_ahead(wish, 1, ()) for wish in TURNS], [0, 0, 1, 2, None, None])
        self.assertEqual([least_ahead(wish, 3, ()) for wish in TURNS], [0, 0, 0, 0, 1, 2])

    def test_all_good(self):
        for hold, loose in itertools.product(range(4), ((), (0,))):
            self.assertEqual(least_ahead(ALL_GOOD, hold, loose), 0)

    def test_the_least_one(self):
        for wish in drawn_wishes(52, 2):
            for hold, loose in itertools.product(range(4), loose_lots(wish)[:6]):
                found = [ahead for ahead in range(3) if can_be_kept(wish, (hold, ahead, loose))]
                expected = found[0] if found else None
                self.assertEqual(least_ahead(wish, hold, loose), expected, (wish, hold, loose))

    def test_by_name(self):
        self.assertEqual(least_ahead(loose=(), hold=0, wish=DOOR), 1)
        self.assertEqual(least_ahead(DOOR, loose=(0,), hold=3), 1)


class Need(unittest.TestCase):
    def test_none_wanted(self):
        self.assertEqual(need(ALL_GOOD), 0)
        self.assertEqual(need((2, ((0, 1), (1, 1)), (0,))), 0)
        self.assertEqual(need((2, ((0, 1), (1, 0)), (0, 1))), 0)

    def test_turns(self):
        self.assertEqual([need(wish) for wish in TURNS], [0, 1, 2, 3, 4, 5])

    def test_the_door(self):
        self.assertEqual(need(DOOR), 1)

    def test_the_longest_way_counts(self):
        # From 0 there is a way of one deed back, and one of four.
        wish = (2, ((1, 4), (2, 2), (3, 3), (0, 4), (0, 0)), (0,))
        self.assertEqual(need(wish), 4)

    def test_without_a_bound(self):
        self.assertIsNone(need(ROUND))
        self.assertIsNone(need((2, ((1, 0), (1, 0)), (0,))))
        self.assertIsNone(need((2, ((1, 0), (2, 0), (1, 1)), (0,))))
        wish = (2, ((1, 1), (2, 2), (3, 3), (4, 4), (5, 5), (5, 0)), (0,))
        self.assertIsNone(need(wish))

    def test_doomed_states_do_not_count(self):
        self.assertEqual(need((2, ((1, 2), (0, 0), (3, 2), (2, 2)), (0,))), 1)

    def test_states_that_do_not_come_do_not_count(self):
        self.assertEqual(need((1, ((0,), (2,), (1,), (0,)), (0, 1))), 0)
        self.assertIsNone(need(MIXED[:1] + (((1, 2), (0, 1), (2, 2)), (0,))))
        self.assertEqual(need(MIXED), 1)
        self.assertEqual(need((2, ((0, 0), (1, 0)), (0,))), 0)

    def test_good_ones_on_the_way(self):
        self.assertEqual(need((1, ((1,), (2,), (3,), (4,), (5,), (0,)), (0, 2))), 3)
        self.assertEqual(need((1, ((1,), (2,), (3,), (4,), (5,), (0,)), (0, 1, 4))), 2)

    def test_counted(self):
        for wish in [*drawn_wishes(53, 12), DOOR, ROUND, MIXED, *TURNS]:
            states = len(wish[1])
            if wish[0] < 3 or states < 4:
                # Long enough to come to a GOOD state, and from it through all states that are not.
                most = min(2 * states, {1: 12, 2: 9, 3: 7, 4: 6}[wish[0]])
                longer = told_longer(wish, most)
                expected = None if longer >= states else longer
                if most == 2 * states:
                    self.assertEqual(need(wish), expected, wish)
                elif need(wish) is not None:
                    self.assertLessEqual(longer, need(wish), wish)

    def test_it_is_what_has_to_be_held(self):
        for wish in [*drawn_wishes(54, 12), DOOR, ROUND, MIXED, *TURNS]:
            least = need(wish)
            for hold in range(4):
                kept = least is not None and hold >= least
                self.assertIs(can_be_kept(wish, (hold, 0, ())), kept, (wish, hold))

    def test_by_name(self):
        self.assertEqual(need(wish=DOOR), 1)


class Both(unittest.TestCase):
    def test_kinds_of_results(self):
        for found in (least_hold(DOOR, 0, ()), least_ahead(DOOR, 0, ()), need(DOOR)):
            self.assertIs(found.__class__, int)

    def test_equal_calls(self):
        for wish in drawn_wishes(55, 1):
            kept = copy.deepcopy(wish)
            self.assertEqual(need(wish), need(kept))
            self.assertEqual(least_hold(wish, 1, (0,)), least_hold(kept, 1, (0,)))
            self.assertEqual(least_ahead(wish, 1, (0,)), least_ahead(kept, 1, (0,)))
            self.assertEqual(wish, kept)


if __name__ == "__main__":
    unittest.main()
