"""The game behind a WISH and a KIND: POSITIONS, ANSWERS, and the papers on who wins."""

from guardkeeps.checks import (
    are_numbers, are_rising, is_count, is_integer, is_pair, is_paper, is_triple)
from guardkeeps.errors import BadPaper, OutOfPlace
from guardkeeps.play import START, coming_moves, lost_positions
from guardkeeps.rules import need_rules
from guardkeeps.wishes import need_deed


def is_position(wish, kind, value):
    """Whether a value of any kind is a POSITION by its form."""
    return need_rules(wish, kind).has_form(value)


def answers(wish, kind, position, deed):
    """The ascending tuple of all ANSWERS at a POSITION to a deed."""
    return tuple(_need_moves(wish, kind, position, deed))


def led(wish, kind, position, deed, shown):
    """The POSITION to which an ANSWER at a POSITION to a deed leads."""
    moves = _need_moves(wish, kind, position, deed)
    if not _is_answer(moves, shown, wish[0]):
        raise OutOfPlace("shown: an answer is wanted")
    return moves[shown]


def can_be_kept(wish, kind):
    """Whether some guard keeps a WISH by a KIND."""
    table = coming_moves(need_rules(wish, kind))
    return START not in lost_positions(table)


def kept_paper(wish, kind):
    """A paper on whether a WISH can be kept by a KIND; only POSITIONS that come by it are in it."""
    table = coming_moves(need_rules(wish, kind))
    lost = lost_positions(table)
    if START in lost:
        return ("lost", _lost_table(table, lost))
    return ("kept", _kept_table(table, lost))


def check_kept(wish, kind, paper):
    """The first word of a right paper on whether a WISH can be kept by a KIND."""
    rules = need_rules(wish, kind)
    if not is_paper(paper, ("kept", "lost")):
        raise BadPaper("form")
    word, table = paper
    if not isinstance(table, tuple):
        raise BadPaper(word)
    right = _is_kept_table(rules, table) if word == "kept" else _is_lost_table(rules, table)
    if not right:
        raise BadPaper(word)
    return word


def _need_moves(wish, kind, position, deed):
    """The moves at a POSITION to a deed; an error for the first argument that is wrong."""
    rules = need_rules(wish, kind)
    if not rules.has_form(position):
        raise OutOfPlace("position: one of this wish and kind is wanted")
    return rules.moves(position, need_deed(wish[0], deed))


def _is_answer(moves, thing, deeds):
    """Whether a thing of any kind is one of the ANSWERS of some moves."""
    # True is equal to 1, but it is no deed.
    return are_numbers(thing, deeds) and thing in moves


def _kept_table(table, lost):
    """The table of a paper "kept": always the least ANSWER by which nothing is lost."""
    picked = {}
    waiting = [START]
    while waiting:
        position = waiting.pop()
        if position not in picked:
            rows = table[position]
            picked[position] = tuple([_first_safe(row, lost) for row in rows])
            waiting.extend([row[shown] for row, shown in zip(rows, picked[position])])
    return tuple([(position, picked[position]) for position in sorted(picked)])


def _first_safe(row, lost):
    """The least ANSWER of a row that leads to a POSITION that is not lost."""
    return min([shown for shown in row if row[shown] not in lost])


def _lost_table(table, lost):
    """The table of a paper "lost": the POSITIONS that come if the program plays its deeds."""
    ranks = {}
    waiting = [START]
    while waiting:
        position = waiting.pop()
        if position not in ranks:
            deed, rank = lost[position]
            ranks[position] = (position, deed, rank)
            waiting.extend(list(table[position][deed].values()))
    return tuple([ranks[position] for position in sorted(ranks)])


def _is_kept_table(rules, table):
    """Whether a tuple is the table of a paper "kept"."""
    if not all([is_pair(row) and rules.has_form(row[0]) for row in table]):
        return False
    if not _are_places([row[0] for row in table]):
        return False
    places = {row[0]: True for row in table}
    return all([_is_kept_row(rules, row, places) for row in table])


def _is_kept_row(rules, row, places):
    """Whether a pair tells an ANSWER to each deed that leads to one of the POSITIONS told."""
    position, shown_at = row
    if not isinstance(shown_at, tuple) or len(shown_at) != rules.deeds:
        return False
    for deed, shown in enumerate(shown_at):
        moves = rules.moves(position, deed)
        if not _is_answer(moves, shown, rules.deeds) or moves[shown] not in places:
            return False
    return True


def _is_lost_table(rules, table):
    """Whether a tuple is the table of a paper "lost"."""
    if not all([_is_lost_row(rules, row) for row in table]):
        return False
    if not _are_places([row[0] for row in table]):
        return False
    ranks = {position: rank for position, _, rank in table}
    return all([_is_lost_by(rules, row, ranks) for row in table])


def _is_lost_row(rules, row):
    """Whether a thing is a triple of a POSITION, a deed and an integer from 0 on."""
    if not is_triple(row) or not rules.has_form(row[0]):
        return False
    return is_integer(row[1], 0, rules.deeds - 1) and is_count(row[2])


def _is_lost_by(rules, row, ranks):
    """Whether each ANSWER to the deed of a triple leads to a POSITION with a lesser RANK."""
    position, deed, rank = row
    moves = rules.moves(position, deed)
    return all([behind in ranks and ranks[behind] < rank for behind in moves.values()])


def _are_places(positions):
    """Whether POSITIONS are ascending, so that none comes twice, with the start among them."""
    return START in positions and are_rising(positions)
