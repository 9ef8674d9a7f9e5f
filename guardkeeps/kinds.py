"""KINDS: how much a guard may hold and be ahead, and what it cannot stop."""

from guardkeeps.checks import are_ascending, is_integer, is_triple
from guardkeeps.errors import BadKind, OutOfPlace
from guardkeeps.wishes import need_wish

MOST_HELD = 3
MOST_AHEAD = 2


def need_kind(wish, thing):
    """The thing itself, if it is a KIND of the wish's deeds; otherwise BadKind."""
    deeds = need_wish(wish)[0]
    if not is_triple(thing):
        raise BadKind("form")
    hold, ahead, loose = thing
    if not is_integer(hold, 0, MOST_HELD):
        raise BadKind("hold")
    if not is_integer(ahead, 0, MOST_AHEAD):
        raise BadKind("ahead")
    if not are_ascending(loose, deeds):
        raise BadKind("loose")
    return thing


def need_hold(thing):
    """The thing itself, if it is a HOLD; otherwise OutOfPlace."""
    if not is_integer(thing, 0, MOST_HELD):
        raise OutOfPlace("hold: an integer from 0 to 3 is wanted")
    return thing


def need_ahead(thing):
    """The thing itself, if it is an AHEAD; otherwise OutOfPlace."""
    if not is_integer(thing, 0, MOST_AHEAD):
        raise OutOfPlace("ahead: an integer from 0 to 2 is wanted")
    return thing


def need_loose(wish, thing):
    """The thing itself, if it is an ascending tuple of deeds of a right wish; else OutOfPlace."""
    if not are_ascending(thing, wish[0]):
        raise OutOfPlace("loose: an ascending tuple of deeds is wanted")
    return thing
