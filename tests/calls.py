"""What tests of all functions share: wrong arguments in turn, and arguments as lists."""

import copy

from eachsecond.errors import BadValue
from samples import STRANGE, as_lists, mixed


def position(function, arguments):
    """The position that BadValue tells; None if the call does not raise."""
    try:
        function(*arguments)
    except BadValue as error:
        return error.at
    return None


class CallChecks:
    """For a TestCase: CALLS are (function, names of its arguments, good arguments)."""

    def takes(self, function, at, strange):
        """Whether the strange value is as described for this argument; most arguments take none of them."""
        return False

    def test_takes_arguments_by_name(self):
        for function, names, good in self.CALLS:
            with self.subTest(function.__name__):
                self.assertEqual(function(**dict(zip(names.split(), good))), function(*good))

    def test_strange_values_in_each_place(self):
        for function, _, good in self.CALLS:
            for at in range(len(good)):
                for strange in STRANGE:
                    told = position(function, good[:at] + (strange,) + good[at + 1:])
                    with self.subTest(function=function.__name__, at=at, strange=repr(strange)[:40]):
                        if self.takes(function, at, strange):
                            self.assertIsNone(told)
                        else:
                            self.assertEqual(told, at)
                            self.assertIs(type(told), int)

    def test_the_first_of_several_is_told(self):
        for function, _, good in self.CALLS:
            for at in range(len(good)):
                told = position(function, good[:at] + (None,) * (len(good) - at))
                self.assertEqual(told, at, function.__name__)

    def test_lists_are_taken_as_tuples_and_stay(self):
        for function, _, good in self.CALLS:
            for changed in (as_lists, mixed):
                passed = [changed(each) for each in good]
                before = copy.deepcopy(passed)
                with self.subTest(function.__name__):
                    self.assertEqual(function(*passed), function(*good))
                    self.assertEqual(repr(passed), repr(before))

    def test_what_raises_changes_nothing_that_was_passed(self):
        for function, _, good in self.CALLS:
            passed = [as_lists(each) for each in good[:-1]] + [[["left"]]]
            before = copy.deepcopy(passed)
            self.assertEqual(position(function, passed), len(good) - 1)
            self.assertEqual(repr(passed), repr(before))
