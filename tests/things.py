"""Things that several tests need: wishes, and things of a wrong kind."""

import random

MANY_FIGURES = 10 ** 999

# Nothing is stopped, everything is GOOD.
ALL_GOOD = (1, ((0,),), (0,))

# Deed 0 keeps the state, deed 1 goes once around six states.
ROUND = (2, tuple((state, (state + 1) % 6) for state in range(6)), (0, 3))

# 0 and 1 are LIVE; 2 is DOOMED; 3 is LIVE and 4 is DOOMED, but no RUN reaches them.
MIXED = (2, ((1, 2), (0, 2), (2, 2), (4, 1), (2, 4)), (0,))

# Deed 0 opens a door, deed 1 shuts it; the door is to be shut, and breaks if an open one is opened.
DOOR = (2, ((1, 0), (2, 0), (2, 2)), (0,))


class Unlike:
    """A thing that cannot be compared, counted, hashed or called true."""

    __hash__ = None

    def refuse(self, *told):
        raise RuntimeError("asked what only a right thing is asked")

    __eq__ = __lt__ = __gt__ = __le__ = __ge__ = refuse
    __len__ = __bool__ = __iter__ = __index__ = __int__ = refuse


def no_integers():
    """Things that are no integers, though some are equal to one."""
    return [True, False, None, 0.0, 1.0, 2.5, float("nan"), "", "0", "1", b"\x01", (), (1,), [],
            [0], {}, {0: 1}, {0}, frozenset(), 1j, int, len, object(), Unlike()]


def no_tuples():
    """Things that are no tuples, though some are of as many things as one."""
    return [None, True, False, 0, 1, 3, -1, MANY_FIGURES, 1.5, "", "abc", "012", b"", b"abc", [],
            [0], [0, 1, 2], {}, {0: 0, 1: 1, 2: 2}, {0, 1, 2}, frozenset((0, 1, 2)), range(3),
            iter((0, 1, 2)), tuple, len, object(), Unlike()]


def no_numbers(many):
    """Things that are no integers from 0 to many - 1."""
    return [*no_integers(), -1, -many, many, many + 1, MANY_FIGURES, -MANY_FIGURES]


def drawn_wish(draw, deeds, states):
    """A wish with so many deeds and states; draw is a random.Random."""
    steps = tuple(tuple(draw.randrange(states) for _ in range(deeds)) for _ in range(states))
    good = (0, *(state for state in range(1, states) if draw.random() < 0.3))
    return (deeds, steps, good)


def drawn_wishes(seed, times):
    """So many wishes for each number of deeds and of states."""
    draw = random.Random(seed)
    return [drawn_wish(draw, deeds, states)
            for deeds in range(1, 5) for states in range(1, 7) for _ in range(times)]


def drawn_kind(draw, deeds):
    """A kind for so many deeds; draw is a random.Random."""
    share = draw.choice((0, 0, 0.3, 0.6, 1))
    loose = tuple(deed for deed in range(deeds) if draw.random() < share)
    return (draw.randrange(4), draw.randrange(3), loose)


def drawn_games(seed, times):
    """So many pairs of a wish and a kind for each number of deeds and of states."""
    draw = random.Random(seed)
    return [(wish, drawn_kind(draw, wish[0])) for wish in drawn_wishes(seed, times)]


def wrong_kinds():
    """Pairs of a thing that is no KIND for two deeds and the part for which it is refused."""
    return [
        (None, "form"),
        ([0, 0, ()], "form"),
        ((0, 0), "form"),
        ((0, 0, (), ()), "form"),
        (Unlike(), "form"),
        ((4, 0, ()), "hold"),
        ((-1, 3, ()), "hold"),
        ((True, 0, ()), "hold"),
        ((0, 3, ()), "ahead"),
        ((0, False, (9,)), "ahead"),
        ((0, 0, [1]), "loose"),
        ((0, 0, (1, 0)), "loose"),
        ((0, 0, (2,)), "loose"),
        ((0, 0, (True,)), "loose"),
    ]


def wrong_wishes():
    """Pairs of a thing that is no WISH and the part for which it is refused."""
    return [
        (None, "form"),
        ([2, ((0, 0),), (0,)], "form"),
        ((2, ((0, 0),)), "form"),
        ((2, ((0, 0),), (0,), ()), "form"),
        ((0, (), (0,)), "deeds"),
        ((5, ((0,) * 5,), (0,)), "deeds"),
        ((True, ((0,),), (0,)), "deeds"),
        ((2, (), (0,)), "steps"),
        ((2, ((0, 1),), (0,)), "steps"),
        ((2, ((0, 0),), ()), "good"),
        ((2, ((0, 0),), (1,)), "good"),
        ((2, ((0, 0),), (False,)), "good"),
    ]
