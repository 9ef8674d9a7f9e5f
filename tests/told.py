"""Points of the document that tell of runs, tried out word by word and without thrift."""

import functools
import itertools


def lots(deeds, most):
    """All tuples of at most so many deeds."""
    return [lot for many in range(most + 1)
            for lot in itertools.product(range(deeds), repeat=many)]


def led_to(wish, state, run):
    """The state to which deeds lead from a state."""
    for deed in run:
        state = wish[1][state][deed]
    return state


def is_good(wish, start, run):
    return led_to(wish, start, run) in wish[2]


def is_live(wish, start, run):
    """Whether a RUN can be made GOOD: by fewer deeds than there are states, or never."""
    seen, new = set(), {led_to(wish, start, run)}
    while new:
        seen |= new
        new = {behind for state in new for behind in wish[1][state]} - seen
    return bool(seen & set(wish[2]))


def broken_points(wish, kind, start, run, before, shown):
    """The WORDS of the points of [4] that do not hold of a RUN from a state, in their order.

    All held ahead of its last deed; before is the OUTPUT then, shown is what is shown at it.
    """
    hold, ahead, loose = kind
    output, deed = before + shown, run[-1]
    live = is_live(wish, start, run)
    shortened = [run[:len(run) - many] for many in range(min(hold, len(run)) + 1)]
    lengthened = output[:len(run)] == run and len(output) <= len(run) + ahead
    words = []
    if not is_good(wish, start, output):
        words.append("good")
    if (live and not (output in shortened or lengthened)) or (
            is_good(wish, start, run) and output != run):
        words.append("run")
    if deed in loose and (shown[:1] != (deed,) or (not live and len(shown[1:]) > ahead)):
        words.append("loose")
    if deed not in loose and not live and shown != ():
        words.append("still")
    return words


def all_holds(wish, kind, start, run, before, shown):
    """Whether all of [4] holds of a RUN from a state, if it held ahead of its last deed."""
    return not broken_points(wish, kind, start, run, before, shown)


def steps_of(guard, run):
    """For each deed of a RUN the OUTPUT ahead of it, what is shown, and the memory behind it."""
    memory, before, steps = 0, (), []
    for deed in run:
        memory, shown = guard[memory][deed]
        steps.append((before, shown, memory))
        before += shown
    return steps


def failing(wish, kind, guard, run):
    """How many deeds the first beginning of a RUN has of which [4] does not hold, and its WORD."""
    for at, (before, shown, _) in enumerate(steps_of(guard, run)):
        words = broken_points(wish, kind, 0, run[:at + 1], before, shown)
        if words:
            return (at + 1, words[0])
    return None


def coming_places(wish, kind, guard):
    """The pairs of a memory and a POSITION that come, and whether a RUN fails on the way."""
    places, failed, runs = {(0, ("even", 0))}, False, [()]
    for run in runs:
        for deed in range(wish[0]):
            longer = (*run, deed)
            if failing(wish, kind, guard, longer):
                failed = True
                continue
            before, shown, memory = steps_of(guard, longer)[-1]
            place = (memory, position_of(wish, 0, longer, before + shown))
            if place not in places:
                places.add(place)
                runs.append(longer)
    return places, failed


@functools.cache
def lasting(wish, kind):
    """The POSITIONS, of those that come by any ANSWERS, from which a guard can go on."""
    come = [("even", 0)]
    for position in come:
        come.extend({behind for deed in range(wish[0])
                     for _, behind in answers(wish, kind, position, deed)} - set(come))
    last = set(come)
    while True:
        fewer = {position for position in last if all(
            any(behind in last for _, behind in answers(wish, kind, position, deed))
            for deed in range(wish[0]))}
        if fewer == last:
            return last
        last = fewer


def do_fit(wish, kind, films):
    """Whether FILMS fit, as [13] says it at last."""
    last = lasting(wish, kind)
    for (run, shown), (other, beside) in itertools.product(films, repeat=2):
        for many in range(1, min(len(run), len(other)) + 1):
            if run[:many] == other[:many] and shown[many - 1] != beside[many - 1]:
                return False
    for run, shown_at in films:
        position = ("even", 0)
        for deed, shown in zip(run, shown_at):
            position = dict(answers(wish, kind, position, deed)).get(shown)
            if position not in last:
                return False
    return ("even", 0) in last


def first_unfit(wish, kind, films):
    """The number of the first FILM that does not fit, and with how few of its deeds; or None."""
    for number, (run, shown) in enumerate(films):
        if not do_fit(wish, kind, films[:number + 1]):
            return next((number, many) for many in range(len(run) + 1)
                        if not do_fit(wish, kind, (*films[:number], (run[:many], shown[:many]))))
    return None


def is_right_table(wish, kind, guard, table):
    """Whether a tuple of pairs of a memory and a POSITION is right by [9]."""
    if (0, ("even", 0)) not in table or any(low >= high for low, high in zip(table, table[1:])):
        return False
    for memory, position in table:
        if memory not in range(len(guard)) or position not in all_positions(wish, kind):
            return False
    return all((guard[memory][deed][0], behind) in table
               for memory, position in table for deed in range(wish[0])
               for behind in [dict(answers(wish, kind, position, deed)).get(guard[memory][deed][1])])


def memory_pairs(guard, other):
    """For each pair of memories that comes by one RUN, a RUN to it with the fewest deeds."""
    found, runs = {}, [()]
    for run in runs:
        pair = tuple(([0] + [memory for _, _, memory in steps_of(each, run)])[-1]
                     for each in (guard, other))
        if pair not in found:
            found[pair] = run
            runs.extend((*run, deed) for deed in range(len(guard[0])))
    return found


def shown_at(wish, kind, start, run, before):
    """All that a guard may show at the last deed of a RUN, ascending."""
    most = kind[0] + 1 + kind[1]
    return [shown for shown in sorted(lots(wish[0], most))
            if all_holds(wish, kind, start, run, before, shown)]


def position_of(wish, start, run, output):
    """The POSITION of a RUN from a state with its OUTPUT."""
    if not is_live(wish, start, run):
        return ("off", led_to(wish, start, output))
    if output == run:
        return ("even", led_to(wish, start, run))
    if len(output) < len(run):
        return ("behind", led_to(wish, start, output), run[len(output):])
    return ("ahead", led_to(wish, start, run), output[len(run):])


@functools.cache
def all_positions(wish, kind):
    """All POSITIONS by their form [6]."""
    hold, ahead, loose = kind
    found = []
    for state in range(len(wish[1])):
        if state in wish[2]:
            found += [("even", state), ("off", state)]
            found += [("behind", state, lot) for lot in lots(wish[0], hold)
                      if lot and not set(lot) & set(loose) and is_live(wish, state, lot)
                      and not any(is_good(wish, state, lot[:many + 1]) for many in range(len(lot)))]
        elif is_live(wish, state, ()):
            found += [("ahead", state, lot) for lot in lots(wish[0], ahead)
                      if lot and is_good(wish, state, lot)]
    return sorted(found)


@functools.cache
def answers(wish, kind, position, deed):
    """The ANSWERS at a POSITION to a deed, ascending, each with the POSITION behind it."""
    word, state = position[:2]
    if word == "off":
        most = kind[1] if deed in kind[2] else -1
        tried = [(deed, *lot) for lot in lots(wish[0], most)] or [()]
        return [(shown, ("off", led_to(wish, state, shown))) for shown in sorted(tried)
                if is_good(wish, state, shown)]
    run = position[2] if word == "behind" else ()
    before = position[2] if word == "ahead" else ()
    longer = (*run, deed)
    return [(shown, position_of(wish, state, longer, before + shown))
            for shown in shown_at(wish, kind, state, longer, before)]


def can_go_on(wish, kind, most, run=(), output=()):
    """Whether a guard can go on behind a RUN, whatever the next deeds are, so many at most."""
    if most == 0:
        return True
    for deed in range(wish[0]):
        longer = (*run, deed)
        if not any(can_go_on(wish, kind, most - 1, longer, output + shown)
                   for shown in shown_at(wish, kind, 0, longer, output)):
            return False
    return True


def is_kept_by(wish, kind, show, most):
    """Whether all of [4] holds for all RUNS of at most so many deeds.

    show(position, deed) is what the guard shows.
    """
    waiting = [((), ())]
    for run, output in waiting:
        for deed in range(wish[0]):
            longer = (*run, deed)
            shown = show(position_of(wish, 0, run, output), deed)
            if not all_holds(wish, kind, 0, longer, output, shown):
                return False
            if len(longer) < most:
                waiting.append((longer, output + shown))
    return True


def is_defeated_by(wish, kind, play, most, run=(), output=()):
    """Whether no guard can go on for so many deeds; play(position) is the program's next deed."""
    if most == 0:
        return False
    longer = (*run, play(position_of(wish, 0, run, output)))
    return all(is_defeated_by(wish, kind, play, most - 1, longer, output + shown)
               for shown in shown_at(wish, kind, 0, longer, output))


def is_right_paper(wish, kind, paper):
    """Whether a paper with a table of tuples of a right length is right by [6]."""
    word, table = paper
    positions = [row[0] for row in table]
    in_order = all(low < high for low, high in zip(table, table[1:]))
    if not in_order or len(set(positions)) < len(positions) or ("even", 0) not in positions:
        return False
    if not set(positions) <= set(all_positions(wish, kind)):
        return False
    if word == "kept":
        return all(len(told) == wish[0] and any(
            shown == told[deed] and behind in positions
            for shown, behind in answers(wish, kind, position, deed))
            for position, told in table for deed in range(wish[0]))
    ranks = {position: rank for position, _, rank in table}
    return all(deed in range(wish[0]) and rank >= 0 and all(
        ranks.get(behind, rank) < rank for _, behind in answers(wish, kind, position, deed))
        for position, deed, rank in table)
