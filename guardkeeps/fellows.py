"""GUARDS beside one another: which are ALIKE, the LEAST of those, and GUARDS made of others."""

from guardkeeps.errors import OutOfPlace, TooMany
from guardkeeps.games import check_kept
from guardkeeps.guards import MOST_MEMORIES, MOST_SHOWN, need_guard, walked
from guardkeeps.play import START
from guardkeeps.rules import need_rules
from guardkeeps.walks import first_runs


def are_fellows(deeds, guard, other):
    """Whether two GUARDS show the same at each deed of all RUNS."""
    return parting_run(deeds, guard, other) is None


def parting_run(deeds, guard, other):
    """The first RUN, of those with the fewest deeds, at whose last deed both part, or None."""
    need_guard(deeds, guard)
    need_guard(deeds, other)
    return first_runs((0, 0), lambda pair: _pairs_behind(guard, other, pair)).get(None)


def least(deeds, guard):
    """The LEAST of all GUARDS that are ALIKE with one."""
    need_guard(deeds, guard)
    like = _least_alike(guard)
    return _numbered(0, lambda memory: [(like[behind], shown) for behind, shown in guard[memory]])


def joined(deeds, guard, other):
    """The GUARD of two, the first one ahead: the other one is asked at all that the first shows."""
    need_guard(deeds, guard)
    need_guard(deeds, other)
    made = _need_few(_numbered((0, 0), lambda pair: _joined_row(guard, other, pair)))
    if any([len(shown) > MOST_SHOWN for memory in made for _, shown in memory]):
        raise TooMany(MOST_SHOWN)
    return made


def guard_of(wish, kind, paper):
    """The GUARD of a paper "kept" on a WISH and a KIND."""
    if check_kept(wish, kind, paper) == "lost":
        raise OutOfPlace("paper: one that tells that the wish can be kept is wanted")
    rules = need_rules(wish, kind)
    table = {position: shown_at for position, shown_at in paper[1]}
    return _need_few(_numbered(START, lambda position: _answered_row(rules, table, position)))


def _numbered(start, row_of):
    """The table of the places that come from a start, numbered as they first come.

    row_of(place) is a list of pairs, one for each deed: the place behind it, and what is shown.
    """
    places = list(first_runs(start, lambda place: [pair[0] for pair in row_of(place)]))
    numbers = {place: number for number, place in enumerate(places)}
    return tuple([
        tuple([(numbers[behind], shown) for behind, shown in row_of(place)]) for place in places
    ])


def _need_few(made):
    """A table itself, if it has not too many memories for a GUARD; otherwise TooMany."""
    if len(made) > MOST_MEMORIES:
        raise TooMany(MOST_MEMORIES)
    return made


def _pairs_behind(guard, other, pair):
    """The pairs of memories behind one, for each deed; None where unlike things are shown."""
    if pair is None:
        return []
    behind = []
    for (one, shown), (two, beside) in zip(guard[pair[0]], other[pair[1]]):
        behind.append((one, two) if shown == beside else None)
    return behind


def _least_alike(guard):
    """For each memory of a GUARD the least one from which the same is shown at all RUNS."""
    like = [0] * len(guard)
    # Memories that part do so by fewer deeds than there are memories.
    for _ in guard:
        rows = [[(like[behind], shown) for behind, shown in memory] for memory in guard]
        like = [rows.index(row) for row in rows]
    return like


def _joined_row(guard, other, pair):
    """For each deed the pair of memories behind a pair of memories, and what both show at last."""
    row = []
    for behind, shown in guard[pair[0]]:
        beside, more = walked(other, pair[1], shown)
        row.append(((behind, beside), more))
    return row


def _answered_row(rules, table, position):
    """For each deed the POSITION behind the ANSWER of a table, and this ANSWER."""
    return [(rules.moves(position, deed)[shown], shown)
            for deed, shown in enumerate(table[position])]
