"""WISHES and GUARDS written as texts, and read."""

from guardkeeps.errors import BadGuard, BadText, BadWish
from guardkeeps.guards import need_deeds, need_guard
from guardkeeps.wishes import need_wish

MOST_FIGURES = 31


def wish_text(wish):
    """The text of a WISH."""
    deeds, steps, good = need_wish(wish)
    rows = [words_text(states) for states in steps]
    return "\n".join([str(deeds), *rows, words_text(["good", *good])])


def guard_text(deeds, guard):
    """The text of a GUARD."""
    need_guard(deeds, guard)
    return "\n".join([
        words_text([f"{behind}:{shown_text(shown)}" for behind, shown in memory])
        for memory in guard
    ])


def read_wish(string):
    """The WISH that a text writes; otherwise BadText."""
    rows = _need_rows(string)
    last = rows[-1].split(" ")
    wish = (number_in(rows[0]), tuple([numbers_in(row.split(" ")) for row in rows[1:-1]]),
            numbers_in(last[1:]))
    if last[0] != "good":
        raise BadText(1)
    try:
        return need_wish(wish)
    except BadWish:
        raise BadText(1) from None


def read_guard(deeds, string):
    """The GUARD for so many deeds that a text writes; otherwise BadText."""
    need_deeds(deeds)
    rows = _need_rows(string)
    guard = tuple([tuple([_pair_in(word) for word in row.split(" ")]) for row in rows])
    try:
        return need_guard(deeds, guard)
    except BadGuard:
        raise BadText(1) from None


def words_text(things):
    """Numbers and words with single blanks between."""
    return " ".join([str(thing) for thing in things])


def shown_text(shown):
    """What is shown at a deed: deeds with commas between, or "-" if there are none."""
    return ",".join([str(deed) for deed in shown]) if shown else "-"


def number_in(word):
    """The integer that a word writes without a 0 ahead, or None."""
    # No number that is wanted has nearly as many figures; Python refuses to read far more of them.
    if not word.isascii() or not word.isdigit() or len(word) > MOST_FIGURES:
        return None
    if word[0] == "0" and word != "0":
        return None
    return int(word)


def numbers_in(words):
    """The integers that words write, each without a 0 ahead, with None for a word that does not."""
    return tuple([number_in(word) for word in words])


def _need_rows(thing):
    """The rows of a string; BadText of what is none."""
    if not isinstance(thing, str):
        raise BadText(0)
    return thing.split("\n")


def _pair_in(word):
    """The pair that a word of a guard's text writes, with None in it where it writes none."""
    behind, _, shown = word.partition(":")
    return (number_in(behind), () if shown == "-" else numbers_in(shown.split(",")))
