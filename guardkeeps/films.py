"""FILMS of what was seen: whether a guard that keeps a WISH can have shown it."""

from guardkeeps.checks import are_numbers, is_pair
from guardkeeps.errors import OutOfPlace
from guardkeeps.guards import is_shown
from guardkeeps.play import START, coming_moves, lost_positions
from guardkeeps.rules import need_rules

MOST_FILMS = 20
LONGEST_FILM = 40


def do_fit(wish, kind, films):
    """Whether some guard keeps a WISH by a KIND, and shows just what FILMS tell."""
    moves = _need_lasting_moves(wish, kind, films)
    return START in moves and _first_fault(moves, films) is None


def first_unfit(wish, kind, films):
    """The first FILM with which those up to it do not fit, and how few of its deeds are enough.

    It is told by its number, from 0; None if all fit, or there is no FILM.
    """
    moves = _need_lasting_moves(wish, kind, films)
    if films and START not in moves:
        return (0, 0)
    return _first_fault(moves, films)


def _need_lasting_moves(wish, kind, films):
    """For each POSITION from which a guard can go on, by deed: the ANSWERS by which it can.

    Each stands with the POSITION behind it. An error for the first argument that is wrong.
    """
    rules = need_rules(wish, kind)
    if not _are_films(films, rules.deeds):
        raise OutOfPlace("films: a tuple of at most 20 films is wanted")
    table = coming_moves(rules)
    lost = lost_positions(table)
    return {position: [_without(row, lost) for row in rows]
            for position, rows in table.items() if position not in lost}


def _without(row, lost):
    """The moves of a row that lead to no POSITION that is lost."""
    return {shown: behind for shown, behind in row.items() if behind not in lost}


def _first_fault(moves, films):
    """The number of the first FILM that does not fit, with the least number of its deeds; or None.

    There is a guard that can go on from the start.
    """
    told = {}
    for number, (run, shown_at) in enumerate(films):
        position = START
        for many, deed in enumerate(run, start=1):
            shown = shown_at[many - 1]
            row = moves[position][deed]
            # Of two FILMS that begin alike the first one told what is shown there.
            if shown not in row or told.setdefault(run[:many], shown) != shown:
                return (number, many)
            position = row[shown]
    return None


def _are_films(thing, deeds):
    """Whether a thing is a tuple of FILMS, not too many."""
    if not isinstance(thing, tuple) or len(thing) > MOST_FILMS:
        return False
    return all([_is_film(film, deeds) for film in thing])


def _is_film(thing, deeds):
    """Whether a thing is a pair of a RUN, not too long, and what is shown at each of its deeds."""
    if not is_pair(thing) or not are_numbers(thing[0], deeds) or len(thing[0]) > LONGEST_FILM:
        return False
    if not isinstance(thing[1], tuple) or len(thing[1]) != len(thing[0]):
        return False
    return all([is_shown(shown, deeds) for shown in thing[1]])
