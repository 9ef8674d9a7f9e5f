"""GUARDS judged: whether one keeps a WISH, and the papers on it."""

from guardkeeps.checks import are_rising, is_integer, is_pair, is_paper
from guardkeeps.errors import BadPaper, Nothing
from guardkeeps.guards import need_guard
from guardkeeps.play import START
from guardkeeps.points import stepped
from guardkeeps.rules import need_rules
from guardkeeps.walks import first_runs
from guardkeeps.wishes import is_run, need_run


def failing(wish, kind, guard, run):
    """How many deeds the beginning of a RUN has that fails, with its WORD; None if none fails."""
    rules = _need_all(wish, kind, guard)
    return _first_fault(rules, guard, need_run(wish[0], run))


def keeps(wish, kind, guard):
    """Whether a GUARD keeps a WISH by a KIND."""
    return first_failing(wish, kind, guard) is None


def first_failing(wish, kind, guard):
    """The first RUN, of those with the fewest deeds, that fails, or None."""
    return _place_runs(_need_all(wish, kind, guard), guard).get(None)


def judge_paper(wish, kind, guard):
    """A paper on whether a GUARD keeps a WISH: the pairs that come, or the first RUN that fails."""
    runs = _place_runs(_need_all(wish, kind, guard), guard)
    if None in runs:
        return ("fails", runs[None])
    return ("keeps", tuple(sorted(runs)))


def check_judge(wish, kind, guard, paper):
    """The first word of a right paper on whether a GUARD keeps a WISH by a KIND."""
    rules = _need_all(wish, kind, guard)
    if not is_paper(paper, ("keeps", "fails")):
        raise BadPaper("form")
    word, told = paper
    is_right = _is_table(rules, guard, told) if word == "keeps" else _fails(rules, guard, told)
    if not is_right:
        raise BadPaper(word)
    return word


def held_and_early(wish, kind, guard):
    """The pair of HELD and EARLY of a GUARD; Nothing if it does not keep the WISH."""
    runs = _place_runs(_need_all(wish, kind, guard), guard)
    if None in runs:
        raise Nothing("the guard does not keep the wish")
    positions = [position for _, position in runs]
    return (_most_deeds(positions, "behind"), _most_deeds(positions, "ahead"))


def _need_all(wish, kind, guard):
    """The rules of a WISH and a KIND; an error for the first thing that is wrong."""
    rules = need_rules(wish, kind)
    need_guard(rules.deeds, guard)
    return rules


def _first_fault(rules, guard, run):
    """How many deeds the beginning of a right RUN has that fails, with its WORD, or None."""
    memory = 0
    position = START
    for many, deed in enumerate(run, start=1):
        memory, shown = guard[memory][deed]
        position, word = stepped(rules, position, deed, shown)
        if word is not None:
            return (many, word)
    return None


def _place_runs(rules, guard):
    """For each pair of a memory and a POSITION that comes, the first RUN to it, in their order.

    None stands for what comes if a RUN fails.
    """
    return first_runs((0, START), lambda place: _places_behind(rules, guard, place))


def _places_behind(rules, guard, place):
    """The places behind one, for each deed: pairs, or None if the RUN fails by the deed."""
    if place is None:
        return []
    memory, position = place
    behind = []
    for deed, (following, shown) in enumerate(guard[memory]):
        moves = rules.moves(position, deed)
        behind.append((following, moves[shown]) if shown in moves else None)
    return behind


def _most_deeds(positions, word):
    """The greatest number of deeds held, or shown ahead, at POSITIONS with a word; 0 if none."""
    return max([len(position[2]) for position in positions if position[0] == word], default=0)


def _is_table(rules, guard, thing):
    """Whether a thing is the table of a paper "keeps"."""
    if not isinstance(thing, tuple) or not all([_is_place(rules, guard, row) for row in thing]):
        return False
    if (0, START) not in thing or not are_rising(thing):
        return False
    places = {place: True for place in thing}
    return all([behind in places for place in thing
                for behind in _places_behind(rules, guard, place)])


def _is_place(rules, guard, thing):
    """Whether a thing is a pair of a memory and a POSITION."""
    return is_pair(thing) and is_integer(thing[0], 0, len(guard) - 1) and rules.has_form(thing[1])


def _fails(rules, guard, thing):
    """Whether a thing is a RUN that fails, of which no shorter beginning fails."""
    if not is_run(thing, rules.deeds):
        return False
    fault = _first_fault(rules, guard, thing)
    return fault is not None and fault[0] == len(thing)
