import copy
import unittest

import slow_house
from calls import position
from eachsecond.facts import is_fact
from eachsecond.houses import House
from eachsecond.texts import printed
from house_samples import ARGUMENTS, PLAIN
from samples import STRANGE, as_lists, mixed, places, put

MILLION = 10 ** 6
LAST = 10 ** 8
FACTS = (
    ("hold", ("4000", 5), 0, ("ann", None)),
    ("forward", ("11", 0), 1, ("4000",)),
    ("uses", ("ann", 7), 2, "plain"),
    ("tariff", ("plain", 9), 1000, PLAIN),
    ("bundle", ("ann", 3, "any"), 0, (25, ("far", "home"), ("high",))),
    ("piece", ("call", 2), 3, ("4000", "11", 17, 60)),
)


class FactTest(unittest.TestCase):
    """What facts are; a house and `printed` take nothing else."""

    def check(self, fact, good):
        told = None if good else 0
        for form in (tuple, as_lists, mixed) if isinstance(fact, (list, tuple)) else (lambda same: same,):
            passed = form(fact)
            before = copy.deepcopy(passed)
            house = House(*ARGUMENTS)
            self.assertIs(is_fact(passed), good, repr(fact)[:200])
            self.assertEqual(position(printed, (passed,)), told, repr(fact)[:200])
            self.assertEqual(position(house.tell, (passed,)), told, repr(fact)[:200])
            self.assertEqual(len(house.log()), 2 if good else 1)
            self.assertEqual(repr(passed), repr(before))

    def variants(self, fact, at, good, bad):
        """The fact with good and bad values at a place."""
        for values, is_good in ((good, True), (bad, False)):
            for value in values:
                self.assertIs(slow_house.is_fact(put(fact, at, value)), is_good, (fact, at, value))
                self.check(put(fact, at, value), is_good)

    def test_ordinary(self):
        for fact in FACTS:
            self.check(fact, True)
            self.check(fact[:3] + (None,), True)

    def test_kinds(self):
        for fact in FACTS:
            self.variants(fact, (0,), (), ("", "Hold", "holds", "plan", "-", "*", None, 0, ("hold",), ()))
        for one in FACTS:
            for other in FACTS:
                if one[0] != other[0]:
                    self.check(one[:1] + other[1:], slow_house.is_fact(one[:1] + other[1:]))
                    self.check(one[:3] + other[3:], slow_house.is_fact(one[:3] + other[3:]))

    def test_versions(self):
        for fact in FACTS:
            self.variants(fact, (2,), (0, 1, 1000), (-1, 1001, True, False, None, "0", (0,), 10 ** 30))

    def test_numbers(self):
        short = ("10", "99")
        long = ("100", "12345678", "000")
        bad = ("1", "123456789", "", "12a", "1 2", None, 11, ("11",), "-11")
        for kind, at in ((0, (1, 0)), (5, (3, 0))):
            self.variants(FACTS[kind], at, long, short + bad)
        for kind, at in ((1, (1, 0)), (5, (3, 1))):
            self.variants(FACTS[kind], at, long + short, bad)
        self.variants(FACTS[1], (3, 0), long + short + (None,), bad[:5] + bad[6:])

    def test_words(self):
        good = ("a", "zz", "abcdefgh")
        bad = ("", "abcdefghi", "A", "a1", "a b", "a\n", "-", "*", 1, True, ("a",))
        for kind, at in ((2, (1, 0)), (3, (1, 0)), (4, (1, 0)), (4, (1, 2)), (5, (1, 0)), (2, (3,)), (4, (3, 1)),
                         (4, (3, 2))):
            if at in ((3, 1), (3, 2)):
                self.variants(FACTS[kind], at, [(word,) for word in good], [(word,) for word in bad] + [(None,)])
            else:
                self.variants(FACTS[kind], at, good, bad + (() if at == (3,) else (None,)))
        for at in ((3, 0), (3, 1)):
            self.variants(FACTS[0], at, good + (None,), bad)

    def test_integers(self):
        for kind, at, most in (
                (0, (1, 1), LAST), (1, (1, 1), LAST), (2, (1, 1), LAST), (3, (1, 1), LAST), (4, (1, 1), 1000),
                (4, (3, 0), 10 ** 9), (5, (1, 1), 100), (5, (3, 2), LAST), (5, (3, 3), MILLION), (3, (3, 0), MILLION)):
            self.variants(FACTS[kind], at, (0, 1, most), (-1, most + 1, True, False, None, "1", (1,), 10 ** 30))

    def test_names_of_bundles(self):
        twelve = tuple("abcdefghijkl")
        for at in ((3, 1), (3, 2)):
            self.variants(FACTS[4], at, ((), ("a",), ("a", "b"), twelve),
                          (None, "a", ("b", "a"), ("a", "a"), twelve + ("m",), (("a",),), ("a", "b", "ab"), 5))

    def test_tariffs(self):
        self.variants(FACTS[3], (3,), ((0, (("", "a"),), ()), PLAIN),
                      ((), "plain", (0, (), ()), PLAIN[:2], PLAIN + ((),), (0, (("1", "a"),), ())))

    def test_too_few_and_too_many_members(self):
        for fact in FACTS:
            self.check(fact[:3], False)
            self.check(fact + (None,), False)
            for at in ((1,), (3,)):
                part = fact[at[0]]
                if isinstance(part, tuple):
                    self.check(put(fact, at, part[:-1]), False)
                    self.check(put(fact, at, part + part[-1:]), False)
                    self.check(put(fact, at, ()), False)

    def test_strange_values(self):
        for strange in STRANGE:
            self.check(strange, False)

    def test_strange_values_at_every_place(self):
        for fact in FACTS:
            for at in places(fact):
                for strange in STRANGE:
                    changed = put(fact, at, strange)
                    with self.subTest(kind=fact[0], at=at, strange=repr(strange)[:40]):
                        good = slow_house.is_fact(changed)
                        self.assertIs(is_fact(changed), good)
                        self.assertEqual(position(printed, (changed,)), None if good else 0)
                        self.assertEqual(position(House(*ARGUMENTS).tell, (changed,)), None if good else 0)


if __name__ == "__main__":
    unittest.main()
