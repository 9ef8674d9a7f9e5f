"""A live WATCH: a GUARD to which deeds are fed one by one, and taken back, and tried."""

from guardkeeps.checks import is_count, is_integer
from guardkeeps.errors import Nothing, OutOfPlace
from guardkeeps.guards import need_guard
from guardkeeps.play import START
from guardkeeps.points import stepped
from guardkeeps.rules import need_rules
from guardkeeps.wishes import need_deed

# Python's plain kinds: whether a thing can be called can be asked in no other way but calling it.
UNCALLED = ("bool", "int", "float", "complex", "str", "bytes", "tuple", "list", "dict", "set",
            "frozenset", "range", "object")


class Trial:
    """For one with statement: behind its block a watch is as it was when the block began."""

    def __init__(self, watched):
        self._watched = watched
        self._fed = []
        self._stands = []

    def __enter__(self):
        self._fed = list(self._watched._fed)
        self._stands = list(self._watched._stands)
        return self._watched

    def __exit__(self, *told):
        self._watched._fed = self._fed
        self._watched._stands = self._stands


class Watch:
    """A WISH, a KIND and a GUARD for its deeds, and the deeds that are fed to it."""

    def __init__(self, wish, kind, guard):
        self._rules = need_rules(wish, kind)
        self._wish = wish
        self._kind = kind
        self._guard = need_guard(wish[0], guard)
        # Each deed, with what is shown at it.
        self._fed = []
        # Ahead of all deeds, and behind each: the memory, the POSITION, and the WORD. There is no
        # POSITION any more once the RUN fails, and no WORD until then.
        self._stands = [(0, START, None)]

    @property
    def wish(self):
        """The WISH."""
        return self._wish

    @property
    def kind(self):
        """The KIND."""
        return self._kind

    @property
    def guard(self):
        """The GUARD."""
        return self._guard

    @property
    def run(self):
        """The deeds that were fed."""
        return tuple([deed for deed, _ in self._fed])

    @property
    def output(self):
        """All that was shown."""
        return tuple([deed for _, shown in self._fed for deed in shown])

    @property
    def memory(self):
        """The memory behind the RUN."""
        return self._stands[-1][0]

    @property
    def word(self):
        """The WORD of the beginning of the RUN that fails, or None."""
        return self._stands[-1][2]

    def feed(self, deed):
        """What is shown at a deed, which is fed."""
        need_deed(self._wish[0], deed)
        memory, position, word = self._stands[-1]
        behind, shown = self._guard[memory][deed]
        if word is None:
            position, word = stepped(self._rules, position, deed, shown)
        self._fed.append((deed, shown))
        self._stands.append((behind, position, word))
        return shown

    def back(self, *, many=1):
        """Takes the last deeds back, so many of them."""
        if not is_count(many) or many == 0:
            raise OutOfPlace("many: an integer from 1 on is wanted")
        if many > len(self._fed):
            raise Nothing("there are not so many deeds")
        del self._fed[-many:]
        del self._stands[-many:]

    def copy(self):
        """A watch with the same deeds that goes on by itself."""
        twin = Watch(self._wish, self._kind, self._guard)
        twin._fed = list(self._fed)
        twin._stands = list(self._stands)
        return twin

    def trial(self):
        """For one with statement: behind its block the watch is as it was when the block began."""
        return Trial(self)

    def __len__(self):
        """How many deeds were fed."""
        return len(self._fed)

    def __contains__(self, deed):
        """Whether a value of any kind is a deed of the OUTPUT."""
        # True is equal to 1, but it is no deed.
        return is_integer(deed, 0, self._wish[0] - 1) and deed in self.output

    def __eq__(self, other):
        """Whether the other one is a watch with the same WISH, KIND, GUARD and RUN."""
        return (isinstance(other, Watch) and self._wish == other._wish
                and self._kind == other._kind and self._guard == other._guard
                and self._fed == other._fed)


def under(watch, deed):
    """What deed(watch) returns, called in a trial of the watch."""
    if not isinstance(watch, Watch):
        raise OutOfPlace("watch: a watch is wanted")
    if deed is None or isinstance(deed, Watch) or deed.__class__.__name__ in UNCALLED:
        raise OutOfPlace("deed: what can be called is wanted")
    with watch.trial() as held:
        return deed(held)
