"""What a WISH wants: the least HOLD, the least AHEAD, and its NEED."""

from guardkeeps.games import can_be_kept
from guardkeeps.kinds import MOST_AHEAD, MOST_HELD, need_ahead, need_hold, need_loose
from guardkeeps.wishes import live_states, need_wish, reached_states


def least_hold(wish, ahead, loose):
    """The least HOLD by which a WISH can be kept by (HOLD, ahead, loose), or None."""
    need_wish(wish)
    need_ahead(ahead)
    need_loose(wish, loose)
    return _first_kept(wish, [(hold, ahead, loose) for hold in range(MOST_HELD + 1)])


def least_ahead(wish, hold, loose):
    """The least AHEAD by which a WISH can be kept by (hold, AHEAD, loose), or None."""
    need_wish(wish)
    need_hold(hold)
    need_loose(wish, loose)
    return _first_kept(wish, [(hold, ahead, loose) for ahead in range(MOST_AHEAD + 1)])


def need(wish):
    """The NEED of a WISH, or None."""
    steps, good = need_wish(wish)[1:]
    live = live_states(wish)
    waiting = [state for state in live if state not in good]
    # The states of LIVE RUNS that are longer by so many deeds than their longest GOOD beginning.
    longer = [state for state in reached_states(steps, live) if state in good]
    # With more deeds than there are states to wait in, one of these comes twice: there is no bound.
    for many in range(len(waiting) + 1):
        behind = [step for state in longer for step in steps[state]]
        longer = [state for state in waiting if state in behind]
        if not longer:
            return many
    return None


def _first_kept(wish, kinds):
    """The number, from 0, of the first of some KINDS by which a WISH can be kept, or None."""
    for number, kind in enumerate(kinds):
        if can_be_kept(wish, kind):
            return number
    return None
