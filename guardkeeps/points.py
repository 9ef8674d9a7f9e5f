"""The points of what it is to keep a WISH, asked one by one of what a guard shows at a deed."""

from guardkeeps.wishes import state_behind


def stepped(rules, position, deed, shown):
    """The POSITION behind a deed and None; or None and the WORD, if a point does not hold there."""
    word = broken_point(rules, position, deed, shown)
    if word is not None:
        return (None, word)
    return (rules.moves(position, deed)[shown], None)


def broken_point(rules, position, deed, shown):
    """The WORD of the first point that does not hold behind a deed, or None; all did ahead of it.

    shown is any tuple of deeds; it is an ANSWER at the POSITION exactly if no point is broken.
    """
    word, state = position[:2]
    rest = position[2] if len(position) == 3 else ()
    # What the RUN and the OUTPUT have behind the beginning that both are known to share.
    run = (*rest, deed) if word == "behind" else (deed,)
    output = rest + shown if word == "ahead" else shown
    if state_behind(rules.steps, state, output) not in rules.good:
        return "good"
    end = state_behind(rules.steps, state, run)
    # Of "off" the state is the one of the OUTPUT; the RUN was DOOMED ahead of this deed.
    doomed = word == "off" or end not in rules.live
    if not doomed and not _are_close(rules, run, output, end in rules.good):
        return "run"
    if deed in rules.loose:
        is_more = doomed and len(shown) > 1 + rules.ahead
        return "loose" if shown[:1] != (deed,) or is_more else None
    return "still" if doomed and shown else None


def _are_close(rules, run, output, is_good):
    """Whether an OUTPUT is no more behind, or ahead of, a LIVE RUN than it may be."""
    if is_good:
        return output == run
    held = len(run) - len(output)
    if held > 0:
        return held <= rules.hold and output == run[:len(output)]
    return -held <= rules.ahead and run == output[:len(run)]
