"""Questions about things of any kind, asked before the things are used."""


def is_count(thing):
    """Whether a thing is an integer from 0 on."""
    # Python counts True and False among the ints; the document does not.
    if isinstance(thing, bool) or not isinstance(thing, int):
        return False
    return thing >= 0


def is_integer(thing, least, most):
    """Whether a thing is an integer from least to most, with least from 0 on."""
    return is_count(thing) and least <= thing <= most


def is_pair(thing):
    """Whether a thing is a tuple of two things."""
    return isinstance(thing, tuple) and len(thing) == 2


def is_triple(thing):
    """Whether a thing is a tuple of three things."""
    return isinstance(thing, tuple) and len(thing) == 3


def are_numbers(thing, many):
    """Whether a thing is a tuple of integers from 0 to many - 1."""
    if not isinstance(thing, tuple):
        return False
    return all([is_integer(one, 0, many - 1) for one in thing])


def are_ascending(thing, many):
    """Whether a thing is an ascending tuple of integers from 0 to many - 1."""
    # Only what is known to be integers can be compared without an error.
    if not are_numbers(thing, many):
        return False
    return are_rising(thing)


def are_rising(things):
    """Whether each of some things that can be compared is greater than the one ahead."""
    return all([low < high for low, high in zip(things, things[1:])])


def is_paper(thing, words):
    """Whether a thing is a pair with one of some words first."""
    return is_pair(thing) and isinstance(thing[0], str) and thing[0] in words
