"""A desk: lines are said to it, and it answers."""

from guardkeeps.errors import BadKind, BadText, OutOfPlace
from guardkeeps.games import can_be_kept
from guardkeeps.judges import first_failing
from guardkeeps.kinds import need_kind
from guardkeeps.needs import least_ahead, least_hold, need
from guardkeeps.texts import numbers_in, read_guard, read_wish, shown_text, words_text
from guardkeeps.watches import Watch
from guardkeeps.wishes import need_deed

DONE = "done"
NO = "no"
NONE = "none"


def _tell_kept(wish, kind):
    """Whether the WISH can be kept."""
    return "yes" if can_be_kept(wish, kind) else "not"


def _tell_hold(wish, kind):
    """The least HOLD by the rest of the KIND."""
    return _told(least_hold(wish, kind[1], kind[2]))


def _tell_ahead(wish, kind):
    """The least AHEAD by the rest of the KIND."""
    return _told(least_ahead(wish, kind[0], kind[2]))


def _tell_need(wish, kind):
    """The NEED of the WISH."""
    return _told(need(wish))


def _tell_judge(watch):
    """That the GUARD keeps the WISH, or the first RUN that fails."""
    run = first_failing(watch.wish, watch.kind, watch.guard)
    return "keeps" if run is None else words_text(run)


def _tell_run(watch):
    """The RUN."""
    return _deeds_text(watch.run)


def _tell_output(watch):
    """The OUTPUT."""
    return _deeds_text(watch.output)


def _tell_word(watch):
    """The WORD of the WATCH."""
    return _told(watch.word)


def _told(thing):
    """A number or a word, or "none"."""
    return NONE if thing is None else str(thing)


def _deeds_text(deeds):
    """Deeds with single blanks between, or "none"."""
    return words_text(deeds) if deeds else NONE


# The lines of one word, by what they want.
OF_WISH = {"kept": _tell_kept, "hold": _tell_hold, "ahead": _tell_ahead, "need": _tell_need}
OF_WATCH = {"judge": _tell_judge, "run": _tell_run, "output": _tell_output, "word": _tell_word}


class Desk:
    """A desk, without a wish at first."""

    def __init__(self):
        self._wish = None
        self._kind = None
        self._watch = None

    @property
    def wish(self):
        """The WISH, or None."""
        return self._wish

    @property
    def kind(self):
        """The KIND, or None."""
        return self._kind

    @property
    def watch(self):
        """The Watch itself, or None."""
        return self._watch

    def say(self, line):
        """The answer to a line."""
        if not isinstance(line, str):
            raise OutOfPlace("line: a string is wanted")
        # What stands between rows in a line is no newline.
        if "\n" in line:
            return NO
        words = line.split(" ")
        try:
            return self._answer(words[0], words[1:])
        except (BadText, BadKind, OutOfPlace):
            return NO

    def _answer(self, word, rest):
        """The answer to a line with a first word; an error of what is refused."""
        if word == "wish":
            return self._take_wish(read_wish(_rows_text(rest)))
        if self._wish is None:
            return NO
        if word == "kind":
            numbers = numbers_in(rest)
            return self._take_kind((*numbers[:2], numbers[2:]))
        if word == "guard":
            return self._take_guard(read_guard(self._wish[0], _rows_text(rest)))
        if word in OF_WISH and not rest:
            tell = OF_WISH[word]
            return tell(self._wish, self._kind)
        return NO if self._watch is None else self._answer_by_watch(word, rest)

    def _answer_by_watch(self, word, rest):
        """The answer to a line that wants a guard, where there is one."""
        if word == "feed" and rest:
            return self._feed(numbers_in(rest))
        if word in OF_WATCH and not rest:
            tell = OF_WATCH[word]
            return tell(self._watch)
        return NO

    def _take_wish(self, wish):
        """Takes a WISH, with stopping alone, and without a guard."""
        self._wish = wish
        self._kind = (0, 0, ())
        self._watch = None
        return DONE

    def _take_kind(self, kind):
        """Takes a KIND, without a guard; BadKind of what is none."""
        self._kind = need_kind(self._wish, kind)
        self._watch = None
        return DONE

    def _take_guard(self, guard):
        """Takes a GUARD, in a new WATCH."""
        self._watch = Watch(self._wish, self._kind, guard)
        return DONE

    def _feed(self, deeds):
        """What is shown at each of some deeds; OutOfPlace ahead of all if one of them is none."""
        for deed in deeds:
            need_deed(self._wish[0], deed)
        return words_text([shown_text(self._watch.feed(deed)) for deed in deeds])


def _rows_text(words):
    """The text whose rows stand in a line with " / " between."""
    return " ".join(words).replace(" / ", "\n")
