"""GUARDS that are handed in: tables of memories, and what they show."""

from guardkeeps.checks import are_numbers, is_integer, is_pair
from guardkeeps.errors import BadGuard, OutOfPlace
from guardkeeps.wishes import MOST_DEEDS, need_run

MOST_MEMORIES = 8
MOST_SHOWN = 6


def need_guard(deeds, thing):
    """The thing itself, if it is a GUARD for so many deeds; otherwise BadGuard."""
    need_deeds(deeds)
    if not _are_memories(thing, deeds):
        raise BadGuard("form")
    pairs = [pair for memory in thing for pair in memory]
    if not all([is_pair(pair) and is_integer(pair[0], 0, len(thing) - 1) for pair in pairs]):
        raise BadGuard("next")
    if not all([is_shown(shown, deeds) for _, shown in pairs]):
        raise BadGuard("shown")
    return thing


def output(deeds, guard, run):
    """The OUTPUT of a RUN."""
    return _walked_whole(deeds, guard, run)[1]


def memory_of(deeds, guard, run):
    """The memory behind a RUN."""
    return _walked_whole(deeds, guard, run)[0]


def need_deeds(thing):
    """The thing itself, if it is a number of deeds; otherwise OutOfPlace."""
    if not is_integer(thing, 1, MOST_DEEDS):
        raise OutOfPlace("deeds: an integer from 1 to 4 is wanted")
    return thing


def is_shown(thing, deeds):
    """Whether a thing is what can be shown at one of so many deeds."""
    return are_numbers(thing, deeds) and len(thing) <= MOST_SHOWN


def walked(guard, memory, run):
    """The memory behind some deeds, from a memory on, and all that is shown at them."""
    shown = []
    for deed in run:
        memory, more = guard[memory][deed]
        shown.extend(more)
    return (memory, tuple(shown))


def _walked_whole(deeds, guard, run):
    """The memory behind a RUN, and its OUTPUT; an error for the first argument that is wrong."""
    need_guard(deeds, guard)
    return walked(guard, 0, need_run(deeds, run))


def _are_memories(thing, deeds):
    """Whether a thing is a tuple of 1 to 8 tuples, with one thing in them for each deed."""
    if not isinstance(thing, tuple) or not 1 <= len(thing) <= MOST_MEMORIES:
        return False
    return all([isinstance(memory, tuple) and len(memory) == deeds for memory in thing])
