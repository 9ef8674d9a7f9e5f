"""Things that several tests need: wishes, and things of a wrong kind."""

import random

from guardkeeps.games import kept_paper, led

MANY_FIGURES = 10 ** 999

# Nothing is stopped, everything is GOOD.
ALL_GOOD = (1, ((0,),), (0,))

# Deed 0 keeps the state, deed 1 goes once around six states.
ROUND = (2, tuple((state, (state + 1) % 6) for state in range(6)), (0, 3))

# 0 and 1 are LIVE; 2 is DOOMED; 3 is LIVE and 4 is DOOMED, but no RUN reaches them.
MIXED = (2, ((1, 2), (0, 2), (2, 2), (4, 1), (2, 4)), (0,))

# Deed 0 opens a door, deed 1 shuts it; the door is to be shut, and breaks if an open one is opened.
DOOR = (2, ((1, 0), (2, 0), (2, 2)), (0,))

# Holds the first deed 0 back, and stops for good if another one follows.
HOLDER = (((1, ()), (0, (1,))), ((2, ()), (0, (0, 1))), ((2, ()), (2, ())))

# Shuts the door at once, whatever comes then; lets the deed 1 that was shown ahead come.
SHUTTER = (((1, (0, 1)), (0, (1,))), ((2, ()), (0, ())), ((2, ()), (2, ())))

# Lets everything out, and stops everything.
OPEN_TO_ALL = (((0, (0,)), (0, (1,))),)
CLOSED_TO_ALL = (((0, ()), (0, ())),)


class Unlike:
    """A thing that cannot be compared, counted, hashed or called true."""

    __hash__ = None

    def refuse(self, *told):
        raise RuntimeError("asked what only a right thing is asked")

    __eq__ = __lt__ = __gt__ = __le__ = __ge__ = refuse
    __len__ = __bool__ = __iter__ = __index__ = __int__ = refuse


def no_integers():
    """Things that are no integers, though some are equal to one."""
    return [True, False, None, 0.0, 1.0, 2.5, float("nan"), "", "0", "1", b"\x01", (), (1,), [],
            [0], {}, {0: 1}, {0}, frozenset(), 1j, int, len, object(), Unlike()]


def no_tuples():
    """Things that are no tuples, though some are of as many things as one."""
    return [None, True, False, 0, 1, 3, -1, MANY_FIGURES, 1.5, "", "abc", "012", b"", b"abc", [],
            [0], [0, 1, 2], {}, {0: 0, 1: 1, 2: 2}, {0, 1, 2}, frozenset((0, 1, 2)), range(3),
            iter((0, 1, 2)), tuple, len, object(), Unlike()]


def no_numbers(many):
    """Things that are no integers from 0 to many - 1."""
    return [*no_integers(), -1, -many, many, many + 1, MANY_FIGURES, -MANY_FIGURES]


def drawn_wish(draw, deeds, states):
    """A wish with so many deeds and states; draw is a random.Random."""
    steps = tuple(tuple(draw.randrange(states) for _ in range(deeds)) for _ in range(states))
    good = (0, *(state for state in range(1, states) if draw.random() < 0.3))
    return (deeds, steps, good)


def drawn_wishes(seed, times):
    """So many wishes for each number of deeds and of states."""
    draw = random.Random(seed)
    return [drawn_wish(draw, deeds, states)
            for deeds in range(1, 5) for states in range(1, 7) for _ in range(times)]


def drawn_kind(draw, deeds):
    """A kind for so many deeds; draw is a random.Random."""
    share = draw.choice((0, 0, 0.3, 0.6, 1))
    loose = tuple(deed for deed in range(deeds) if draw.random() < share)
    return (draw.randrange(4), draw.randrange(3), loose)


def drawn_games(seed, times):
    """So many pairs of a wish and a kind for each number of deeds and of states."""
    draw = random.Random(seed)
    return [(wish, drawn_kind(draw, wish[0])) for wish in drawn_wishes(seed, times)]


def drawn_guard(draw, deeds, memories=None):
    """A guard for so many deeds, some of which are let out; draw is a random.Random."""
    memories = memories or draw.randrange(1, 9)
    return tuple(
        tuple((draw.randrange(memories), drawn_shown(draw, deeds, deed)) for deed in range(deeds))
        for _ in range(memories))


def drawn_shown(draw, deeds, deed):
    """What might be shown at a deed."""
    if draw.random() < 0.6:
        return draw.choice(((), (deed,), (deed,)))
    return tuple(draw.randrange(deeds) for _ in range(draw.randrange(7)))


def changed_guard(draw, guard):
    """A guard with one thing otherwise: a memory behind a deed, or what is shown."""
    memory, deed = draw.randrange(len(guard)), draw.randrange(len(guard[0]))
    behind, shown = guard[memory][deed]
    if draw.random() < 0.3:
        pair = (draw.randrange(len(guard)), shown)
    else:
        pair = (behind, drawn_shown(draw, len(guard[0]), deed))
    row = (*guard[memory][:deed], pair, *guard[memory][deed + 1:])
    return (*guard[:memory], row, *guard[memory + 1:])


def drawn_judged(seed, times):
    """Triples of a wish, a kind and a guard: drawn ones, right ones, and some nearly right."""
    draw = random.Random(seed)
    judged = []
    for wish, kind in drawn_games(seed, times):
        judged.append((wish, kind, drawn_guard(draw, wish[0])))
        paper = kept_paper(wish, kind)
        if paper[0] == "kept":
            guard = table_guard(wish, kind, paper[1])
            if len(guard) <= 8:
                judged.append((wish, kind, guard))
                judged.append((wish, kind, changed_guard(draw, guard)))
    return judged


def table_guard(wish, kind, table):
    """The guard of a table of POSITIONS with ANSWERS, with the first POSITION for memory 0."""
    places = sorted([position for position, _ in table], key=lambda place: place != ("even", 0))
    shown_at = dict(table)
    return tuple(
        tuple((places.index(led(wish, kind, place, deed, shown)), shown)
              for deed, shown in enumerate(shown_at[place]))
        for place in places)


def film_of(guard, run):
    """The FILM of a guard at a RUN."""
    memory, shown_at = 0, []
    for deed in run:
        memory, shown = guard[memory][deed]
        shown_at.append(shown)
    return (run, tuple(shown_at))


def wrong_films():
    """What are no FILMS for two deeds."""
    films = [None, [], [((), ())], ((),), (((),),), (((), (), ()),), ([(), ()],), (((), []),),
             (([], ()),), (((0,), ()),), (((), ((),)),), (((0, 1), ((0,),)),), (((2,), ((),)),),
             (((True,), ((),)),), (((0,), ((2,),)),), (((0,), ((False,),)),), (((0,), ([0],)),),
             (((0,), ((0,) * 7,)),), (((0,), (None,)),), (((0,), (0,)),), (((0,), (Unlike(),)),),
             (((Unlike(),), ((),)),), (Unlike(),), ((Unlike(), Unlike()),), ((),) * 21,
             (((), ()),) * 21, (((0,) * 41, ((0,),) * 41),), ((0,), ((0,),)), ((), ())]
    return films + [(film,) for film in no_tuples()] + [(((), thing),) for thing in no_tuples()]


def wrong_guards():
    """Pairs of a thing that is no GUARD for two deeds and the part for which it is refused."""
    row = ((0, ()), (0, ()))
    return [
        (None, "form"),
        ((), "form"),
        ([row], "form"),
        ((list(row),), "form"),
        ((row[:1],), "form"),
        ((row + row[:1],), "form"),
        ((row,) * 9, "form"),
        ((row, Unlike()), "form"),
        ((((1, ()), (0, ())),), "next"),
        ((((0, ()), (False, ())),), "next"),
        ((((0, ()), [0, ()]),), "next"),
        ((((0, (), ()), (0, ())),), "next"),
        ((row, ((0, None), (2, ()))), "next"),
        ((((0, ()), (0, (2,))),), "shown"),
        ((((0, ()), (0, [1])),), "shown"),
        ((((0, (True,)), (0, ())),), "shown"),
        ((row, ((0, (0,) * 7), (0, ()))), "shown"),
    ]


def wrong_kinds():
    """Pairs of a thing that is no KIND for two deeds and the part for which it is refused."""
    return [
        (None, "form"),
        ([0, 0, ()], "form"),
        ((0, 0), "form"),
        ((0, 0, (), ()), "form"),
        (Unlike(), "form"),
        ((4, 0, ()), "hold"),
        ((-1, 3, ()), "hold"),
        ((True, 0, ()), "hold"),
        ((0, 3, ()), "ahead"),
        ((0, False, (9,)), "ahead"),
        ((0, 0, [1]), "loose"),
        ((0, 0, (1, 0)), "loose"),
        ((0, 0, (2,)), "loose"),
        ((0, 0, (True,)), "loose"),
    ]


def wrong_wishes():
    """Pairs of a thing that is no WISH and the part for which it is refused."""
    return [
        (None, "form"),
        ([2, ((0, 0),), (0,)], "form"),
        ((2, ((0, 0),)), "form"),
        ((2, ((0, 0),), (0,), ()), "form"),
        ((0, (), (0,)), "deeds"),
        ((5, ((0,) * 5,), (0,)), "deeds"),
        ((True, ((0,),), (0,)), "deeds"),
        ((2, (), (0,)), "steps"),
        ((2, ((0, 1),), (0,)), "steps"),
        ((2, ((0, 0),), ()), "good"),
        ((2, ((0, 0),), (1,)), "good"),
        ((2, ((0, 0),), (False,)), "good"),
    ]


def wrong_positions():
    """What is no POSITION by the wish DOOR and the kind (1, 1, ())."""
    return [*no_tuples(), (), ("even",), ("even", 1), ("off", 2), ("even", False), ("even", 0.0),
            ["even", 0], ("even", 0, ()), ("behind", 0), ("behind", 0, ()), ("behind", 0, (1,)),
            ("behind", 0, (0, 0)), ("behind", 0, (False,)), ("behind", 1, (1,)), ("ahead", 0, (1,)),
            ("ahead", 1, (1, 1)), ("ahead", 1, (True,)), ("ahead", 1, (0,)), ("ahead", 2, (1,)),
            (("even", 0), 0), (Unlike(), Unlike()), ("even", Unlike()), ("behind", 0, Unlike())]
