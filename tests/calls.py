"""What tests of all functions share: wrong arguments in turn, and arguments as lists."""

import copy

from eachsecond.errors import BadValue
from samples import STRANGE, as_lists, mixed


def position(function, arguments):
    """The position that BadValue tells; None if the call does not raise."""
    try:
        function(*arguments)
    except BadValue as error:
        return error.at
    return None


class CallChecks:
    """For a TestCase: CALLS are (function, names of its arguments, good arguments)."""

    def takes(self, function, at, strange):
        """Whether the strange value is as described for this argument; most arguments take none of them."""
        return False

    def test_takes_arguments_by_name(self):
        for function, names, good in self.CALLS:
            with self.subTest(function.__name__):
                self.assertEqual(function(**dict(zip(names.split(), good))), function(*good))

    def test_strange_values_in_each_place(self):
        for function, _, good in self.CALLS:
            for at in range(len(good)):
                for strange in STRANGE:
                    told = position(function, good[:at] + (strange,) + good[at + 1:])
                    with self.subTest(function=function.__name__, at=at, strange=repr(strange)[:40]):
                        if self.takes(function, at, strange):
                            self.assertIsNone(told)
                        else:
                            self.assertEqual(told, at)
                            self.assertIs(type(told), int)

    def test_the_first_of_several_is_told(self):
        for function, _, good in self.CALLS:
            for at in range(len(good)):
                told = position(function, good[:at] + (None,) * (len(good) - at))
                self.assertEqual(told, at, function.__name__)

    def test_lists_are_taken_as_tuples_and_stay(self):
        for function, _, good in self.CALLS:
            for changed in (as_lists, mixed):
                passed = [changed(each) for each in good]
                before = copy.deepcopy(passed)
                with self.subTest(function.__name__):
                    self.assertEqual(function(*passed), function(*good))
                    self.assertEqual(repr(passed), repr(before))

    def test_what_raises_changes_nothing_that_was_passed(self):
        for function, _, good in self.CALLS:
            passed = [as_lists(each) for each in good[:-1]] + [[["left"]]]
            before = copy.deepcopy(passed)
            self.assertEqual(position(function, passed), len(good) - 1)
            self.assertEqual(repr(passed), repr(before))


class MethodChecks:
    """For a TestCase: METHODS are (name, names of its arguments, good arguments) of a class.

    made() makes an object on which all of them can be called, state(thing) is all that it tells.
    """

    def takes(self, name, at, strange):
        """Whether the strange value is as described for this argument."""
        return False

    def test_takes_arguments_by_name(self):
        for name, names, good in self.METHODS:
            one, other = self.made(), self.made()
            with self.subTest(name):
                self.assertEqual(getattr(one, name)(**dict(zip(names.split(), good))), getattr(other, name)(*good))
                self.assertEqual(self.state(one), self.state(other))

    def test_strange_values_in_each_place(self):
        for name, _, good in self.METHODS:
            thing = self.made()
            before = self.state(thing)
            for at in range(len(good)):
                for strange in STRANGE:
                    if self.takes(name, at, strange):
                        continue
                    told = position(getattr(thing, name), good[:at] + (strange,) + good[at + 1:])
                    with self.subTest(method=name, at=at, strange=repr(strange)[:40]):
                        self.assertEqual(told, at)
                        self.assertIs(type(told), int)
            self.assertEqual(self.state(thing), before, name)

    def test_the_first_of_several_is_told(self):
        for name, _, good in self.METHODS:
            for at in range(len(good)):
                told = position(getattr(self.made(), name), good[:at] + (None,) * (len(good) - at))
                self.assertEqual(told, at, name)

    def check_bounds(self, name, at, good, bad):
        """The good values are taken at this place of a method's arguments, the bad ones are not."""
        arguments = {each: rest for each, _, rest in self.METHODS}[name]
        for value in good:
            told = position(getattr(self.made(), name), arguments[:at] + (value,) + arguments[at + 1:])
            self.assertIsNone(told, (name, at, value))
        for value in bad:
            thing = self.made()
            before = self.state(thing)
            told = position(getattr(thing, name), arguments[:at] + (value,) + arguments[at + 1:])
            self.assertEqual(told, at, (name, at, value))
            self.assertEqual(self.state(thing), before)
