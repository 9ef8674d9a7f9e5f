"""WISHES and RUNS: what they are, and which are GOOD or LIVE."""

from guardkeeps.checks import are_ascending, are_numbers, is_integer, is_triple
from guardkeeps.errors import BadWish, OutOfPlace

MOST_DEEDS = 4
MOST_STATES = 6
LONGEST_RUN = 400


def need_wish(thing):
    """The thing itself, if it is a WISH; otherwise BadWish."""
    if not is_triple(thing):
        raise BadWish("form")
    deeds, steps, good = thing
    if not is_integer(deeds, 1, MOST_DEEDS):
        raise BadWish("deeds")
    if not _are_steps(steps, deeds):
        raise BadWish("steps")
    if not are_ascending(good, len(steps)) or 0 not in good:
        raise BadWish("good")
    return thing


def need_run(deeds, thing):
    """The thing itself, if it is a RUN of so many deeds and not too long; otherwise OutOfPlace."""
    if not is_run(thing, deeds):
        raise OutOfPlace("run: a tuple of at most 400 deeds is wanted")
    return thing


def is_run(thing, deeds):
    """Whether a thing is a RUN of so many deeds that is not too long."""
    return are_numbers(thing, deeds) and len(thing) <= LONGEST_RUN


def need_deed(deeds, thing):
    """The thing itself, if it is one of so many deeds; otherwise OutOfPlace."""
    if not is_integer(thing, 0, deeds - 1):
        raise OutOfPlace("deed: one of the deeds is wanted")
    return thing


def state_behind(steps, state, deeds):
    """The state to which deeds lead from a state."""
    for deed in deeds:
        state = steps[state][deed]
    return state


def state_of(wish, run):
    """The state of a RUN."""
    need_wish(wish)
    need_run(wish[0], run)
    return state_behind(wish[1], 0, run)


def is_good(wish, run):
    """Whether a RUN is GOOD."""
    return state_of(wish, run) in wish[2]


def is_live(wish, run):
    """Whether a RUN is LIVE."""
    return state_of(wish, run) in live_states(wish)


def live_states(wish):
    """The ascending tuple of the LIVE states, also of those that no RUN reaches."""
    steps, good = need_wish(wish)[1:]
    live = good
    while True:
        more = _with_those_ahead(steps, live)
        if more == live:
            return more
        live = more


def reached_states(steps, states):
    """Those of some states, 0 among them, that come from 0 through such alone, ascending."""
    reached = {}
    waiting = [0]
    while waiting:
        state = waiting.pop()
        if state not in reached:
            reached[state] = True
            waiting.extend([behind for behind in steps[state] if behind in states])
    return sorted(reached)


def _are_steps(thing, deeds):
    """Whether a thing is a tuple of 1 to 6 rows, with a state behind each deed."""
    if not isinstance(thing, tuple) or not 1 <= len(thing) <= MOST_STATES:
        return False
    return all([are_numbers(row, len(thing)) and len(row) == deeds for row in thing])


def _with_those_ahead(steps, states):
    """The ascending tuple of some states and those from which one deed leads to them."""
    return tuple([
        state for state, row in enumerate(steps)
        if state in states or any([behind in states for behind in row])
    ])
