"""What all calls are tried with: each argument wrong, two wrong, by position and by name."""

import itertools

from guardkeeps.errors import OutOfPlace


def out_of_place(things):
    return [(thing, OutOfPlace, None) for thing in things]


class Refusing:
    """Tests for a TestCase that tells calls with their arguments.

    right[sort] is a right thing; wrong[sort] are triples of a wrong one, the error, and what it
    tells. calls[call] are the names of the arguments; a name has another sort than itself by
    sorts[call, name].
    """

    sorts = {}

    def sort_of(self, call, name):
        return self.sorts.get((call, name), name)

    def right_for(self, call):
        return {name: self.right[self.sort_of(call, name)] for name in self.calls[call]}

    def wrong_for(self, call, name):
        return self.wrong[self.sort_of(call, name)]

    def refused(self, call, things, error, part):
        names = list(things)
        half = len(names) // 2
        backwards = {name: things[name] for name in reversed(names)}
        for ask in (lambda: call(*things.values()), lambda: call(**things),
                    lambda: call(**backwards),
                    lambda: call(*[things[name] for name in names[:half]],
                                 **{name: things[name] for name in reversed(names[half:])})):
            with self.assertRaises(error) as caught:
                ask()
            self.assertIs(caught.exception.__class__, error, call.__name__)
            told = {**vars(caught.exception)}
            self.assertEqual(told.get("part", told.get("line")), part, (call.__name__, things))

    def test_nothing_wrong(self):
        for call in self.calls:
            right = self.right_for(call)
            self.assertEqual(call(**right), call(*right.values()), call.__name__)

    def test_one_wrong(self):
        for call, names in self.calls.items():
            for name in names:
                for thing, error, part in self.wrong_for(call, name):
                    self.refused(call, {**self.right_for(call), name: thing}, error, part)

    def test_of_two_wrong_the_left_one_is_refused(self):
        for call, names in self.calls.items():
            for left, right in itertools.combinations(names, 2):
                for one, two in itertools.product(self.wrong_for(call, left),
                                                  self.wrong_for(call, right)[::4]):
                    things = {**self.right_for(call), left: one[0], right: two[0]}
                    self.refused(call, things, one[1], one[2])

    def test_afterwards_right_things_are_taken(self):
        for call, names in self.calls.items():
            before = call(**self.right_for(call))
            for name in names:
                for thing, error, _ in self.wrong_for(call, name)[:5]:
                    with self.assertRaises(error):
                        call(**{**self.right_for(call), name: thing})
            self.assertEqual(call(**self.right_for(call)), before)
