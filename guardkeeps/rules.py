"""What a guard of some KIND may show: the POSITIONS, and the ANSWERS at each of them."""

from guardkeeps.checks import are_numbers, is_integer
from guardkeeps.kinds import need_kind
from guardkeeps.wishes import live_states, state_behind


class Rules:
    """The rules by which a guard of a right KIND keeps a right WISH."""

    def __init__(self, wish, kind):
        self.deeds = wish[0]
        self.steps = wish[1]
        self.good = wish[2]
        self.live = live_states(wish)
        self.hold = kind[0]
        self.ahead = kind[1]
        self.loose = kind[2]
        self.tails = [self.good_tails(state) for state in range(len(self.steps))]

    def good_tails(self, state):
        """By what a guard may be ahead of a state: lots of deeds, each with the state behind it."""
        return {tail: behind for tail, behind in tails_from(self.steps, state, self.ahead)
                if behind in self.good}

    def has_form(self, value):
        """Whether a value of any kind has the form of a POSITION."""
        if not isinstance(value, tuple) or len(value) < 2 or not isinstance(value[0], str):
            return False
        if not is_integer(value[1], 0, len(self.steps) - 1):
            return False
        if len(value) == 2:
            return value[0] in ("even", "off") and value[1] in self.good
        if len(value) > 3 or not are_numbers(value[2], self.deeds):
            return False
        if value[0] == "behind":
            return value[1] in self.good and self.can_be_held(value[1], value[2])
        if value[0] == "ahead":
            return value[1] not in self.good and value[2] in self.tails[value[1]]
        return False

    def can_be_held(self, state, deeds):
        """Whether a guard may hold deeds back, with an OUTPUT of a state."""
        if not 1 <= len(deeds) <= self.hold:
            return False
        for deed in deeds:
            state = self.steps[state][deed]
            if deed in self.loose or state in self.good:
                return False
        return state in self.live

    def moves(self, position, deed):
        """The ANSWERS at a POSITION to a deed, ascending, each with the POSITION behind it."""
        word, state = position[:2]
        if word == "off":
            return self.moves_if_doomed(state, deed)
        if word == "ahead":
            return self.moves_if_ahead(state, position[2], deed)
        held = position[2] if word == "behind" else ()
        return self.moves_if_not_ahead(state, held, deed)

    def moves_if_doomed(self, state, deed):
        """The moves if the RUN is DOOMED behind the deed; the state is the one of the OUTPUT."""
        if deed not in self.loose:
            return {(): ("off", state)}
        tails = self.tails[self.steps[state][deed]]
        return {(deed, *tail): ("off", tails[tail]) for tail in tails}

    def moves_if_ahead(self, state, shown, deed):
        """The moves if some deeds are shown ahead; the state is the one of the RUN."""
        behind = self.steps[state][deed]
        if behind not in self.live:
            return self.moves_if_doomed(state_behind(self.steps, state, shown), deed)
        if shown[0] != deed:
            return {}
        rest = shown[1:]
        # What will be ahead: the rest, and all that is shown now, with a LOOSE deed first in it.
        begun = (*rest, deed) if deed in self.loose else rest
        if behind in self.good:
            return {} if begun else {(): ("even", behind)}
        return {tail[len(rest):]: ("ahead", behind, tail) for tail in self.tails[behind]
                if tail[:len(begun)] == begun}

    def moves_if_not_ahead(self, state, held, deed):
        """The moves if some deeds, perhaps none, are held; the state is the one of the OUTPUT."""
        whole = (*held, deed)
        behind = state_behind(self.steps, state, whole)
        if behind not in self.live:
            return self.moves_if_doomed(state, deed)
        if held and deed in self.loose:
            # A LOOSE deed has to be shown first, but what is held, which is not LOOSE, ahead of it.
            return {}
        if behind in self.good:
            return {whole: ("even", behind)}
        moves = {}
        if deed not in self.loose and len(whole) <= self.hold:
            moves[()] = ("behind", state, whole)
        for tail in self.tails[behind]:
            moves[whole + tail] = ("ahead", behind, tail)
        return moves


def need_rules(wish, kind):
    """The rules of a WISH and a KIND; BadWish or BadKind of what is none."""
    return Rules(wish, need_kind(wish, kind))


def tails_from(steps, state, most):
    """All lots of at most so many deeds, ascending, each with the state to which it leads."""
    tails = [((), state)]
    if most > 0:
        for deed, behind in enumerate(steps[state]):
            longer = tails_from(steps, behind, most - 1)
            tails.extend([((deed, *tail), end) for tail, end in longer])
    return tails
