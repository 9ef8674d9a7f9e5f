"""Parts of WISHES: which WISH is a part of which, and the KEPT PART."""

from guardkeeps.errors import OutOfPlace
from guardkeeps.kinds import need_loose
from guardkeeps.walks import first_runs
from guardkeeps.wishes import need_wish, reached_states


def is_part(wish, other):
    """Whether each RUN that is GOOD by a WISH is GOOD by the other one."""
    _need_both(wish, other)
    for state, beside in _both_runs(wish, other):
        if state in wish[2] and beside not in other[2]:
            return False
    return True


def are_alike(wish, other):
    """Whether the same RUNS are GOOD by both WISHES."""
    return parting(wish, other) is None


def parting(wish, other):
    """The first RUN, of those with the fewest deeds, that is GOOD by just one WISH, or None."""
    _need_both(wish, other)
    runs = _both_runs(wish, other)
    for state, beside in runs:
        if (state in wish[2]) != (beside in other[2]):
            return runs[state, beside]
    return None


def kept_part(wish, loose):
    """The KEPT PART of a WISH by some LOOSE deeds, or None."""
    deeds, steps, good = need_wish(wish)
    sure = _sure_states(steps, good, need_loose(wish, loose))
    if 0 not in sure:
        return None
    states = reached_states(steps, sure)
    numbers = {state: number for number, state in enumerate(states)}
    out = len(states)
    rows = [tuple([numbers.get(behind, out) for behind in steps[state]]) for state in states]
    if any([out in row for row in rows]):
        rows.append((out,) * deeds)
    return (deeds, tuple(rows), tuple(range(out)))


def _need_both(wish, other):
    """An error for what is no WISH, or for two that have not as many deeds."""
    need_wish(wish)
    need_wish(other)
    if wish[0] != other[0]:
        raise OutOfPlace("other: a wish with as many deeds is wanted")


def _both_runs(wish, other):
    """For each pair of states that comes by one RUN, the first such RUN, in their order."""
    return first_runs((0, 0), lambda pair: list(zip(wish[1][pair[0]], other[1][pair[1]])))


def _sure_states(steps, good, loose):
    """The greatest lot of GOOD states from which no LOOSE deed leads out of it, ascending."""
    sure = list(good)
    while True:
        fewer = [state for state in sure if all([steps[state][deed] in sure for deed in loose])]
        if len(fewer) == len(sure):
            return fewer
        sure = fewer
