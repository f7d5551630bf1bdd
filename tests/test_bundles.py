import copy
import itertools
import random
import time
import unittest

import reference
from calls import CallChecks, position
from eachsecond.bundles import least_bill, paper, paper_holds, uses
from samples import STRANGE, as_lists, mixed, places, plain, put

MILLION = 10 ** 6
BILLION = 10 ** 9
GROUPS = (("far", "high", 9, 20), ("far", "low", 4, 30))
BUNDLES = (("any", 25, ("far",), ("high", "low")),)


def holds(groups, bundles, bound):
    return paper_holds(groups, bundles, bound, ())


def words(count, prefix=""):
    """So many words, ascending, that begin with the prefix."""
    return tuple(sorted(prefix + chr(97 + k // 26) + chr(97 + k % 26) for k in range(count)))


class BundleCallTest(CallChecks, unittest.TestCase):
    CALLS = (
        (least_bill, "groups bundles", (GROUPS, BUNDLES)),
        (uses, "groups bundles", (GROUPS, BUNDLES)),
        (paper, "groups bundles", (GROUPS, BUNDLES)),
        (holds, "groups bundles bound", (GROUPS, BUNDLES, 100)),
    )

    def takes(self, function, at, strange):
        return type(strange) is int if at == 2 else strange in ((), [])

    def test_paper_holds_by_name(self):
        self.assertIs(paper_holds(groups=GROUPS, bundles=BUNDLES, bound=100, value=(4,)), True)
        self.assertIs(paper_holds(value=(4,), bound=101, bundles=BUNDLES, groups=GROUPS), False)

    def test_bounds_are_integers_of_any_size(self):
        for good in (0, 1, -1, 10 ** 30, -10 ** 30):
            self.assertIsNone(position(holds, (GROUPS, BUNDLES, good)))
        for bad in (True, False, None, "1", "", (1,), [1], ()):
            self.assertEqual(position(holds, (GROUPS, BUNDLES, bad)), 2)

    def test_each_argument_is_refused_ahead_of_the_next(self):
        bad = (GROUPS[0], BUNDLES[0], None)
        for function in (least_bill, uses, paper):
            self.assertEqual(position(function, bad[:2]), 0)
            self.assertEqual(position(function, (GROUPS,) + bad[1:2]), 1)
        self.assertEqual(position(holds, bad), 0)
        self.assertEqual(position(holds, (GROUPS,) + bad[1:]), 1)
        self.assertEqual(position(holds, (GROUPS, BUNDLES) + bad[2:]), 2)


class DescribedTest(unittest.TestCase):
    """What groups and bundles are."""

    def check(self, groups, bundles, expected):
        for form in (tuple, as_lists, mixed):
            for function, rest in ((least_bill, ()), (uses, ()), (paper, ()), (paper_holds, (0, None))):
                told = position(function, (form(groups), form(bundles)) + rest)
                self.assertEqual(told, expected, (function.__name__, repr(groups)[:99], repr(bundles)[:99]))

    def groups(self, expected, *many):
        for groups in many:
            self.check(groups, BUNDLES, expected)

    def bundles(self, expected, *many):
        for bundles in many:
            self.check(GROUPS, bundles, expected)

    def test_groups(self):
        self.groups(None, (), GROUPS, (("a", "b", 0, 1),), (("abcdefgh", "abcdefgh", MILLION, BILLION),))
        for price in (-1, MILLION + 1, True, None, "1"):
            self.groups(0, (("a", "b", price, 1),))
        for seconds in (0, -1, BILLION + 1, True, None, "1"):
            self.groups(0, (("a", "b", 1, seconds),))
        for word in ("", "A", "abcdefghi", "a1", None, 1):
            self.groups(0, ((word, "b", 1, 1),), (("a", word, 1, 1),))
        self.groups(0, (("a", "b", 1),), (("a", "b", 1, 1, 1),), ("ab11",), (None,))

    def test_groups_ascend(self):
        row = ("b", "b", 5, 5)
        self.groups(None, (row, ("b", "b", 6, 1)), (row, ("b", "c", 1, 1)), (row, ("c", "a", 1, 1)))
        self.groups(0, (row, row), (row, ("b", "b", 5, 6)), (row, ("b", "b", 4, 9)), (row, ("b", "a", 9, 9)),
                    (row, ("a", "c", 9, 9)), (("a", "a", 1, 1), row, ("a", "b", 1, 1)))

    def test_bundles(self):
        self.bundles(None, (), BUNDLES, (("a", 0, (), ()),), (("abcdefgh", BILLION, ("a", "b"), ("c", "d")),))
        for seconds in (-1, BILLION + 1, True, None, "1"):
            self.bundles(1, (("a", seconds, (), ()),))
        for word in ("", "A", "abcdefghi", "a1", None, 1):
            self.bundles(1, ((word, 1, (), ()),), (("a", 1, (word,), ()),), (("a", 1, (), (word,)),))
        for names in (("b", "a"), ("a", "a"), ("a", "c", "b"), None, "ab", "a"):
            self.bundles(1, (("a", 1, names, ()),), (("a", 1, (), names),))
        self.bundles(1, (("a", 1, ()),), (("a", 1, (), (), ()),), ("abcd",), (None,))

    def test_bundles_ascend_by_word(self):
        row = ("b", 5, ("x",), ())
        self.bundles(None, (row, ("c", 1, (), ())), (("a", 9, ("z",), ()), row))
        self.bundles(1, (row, row), (row, ("b", 6, ("y",), ())), (row, ("a", 9, ("z",), ())))

    def test_the_most_members_and_one_more(self):
        groups = tuple(("a", "b", k, 1) for k in range(4001))
        self.groups(None, groups[:4000])
        self.groups(0, groups)
        bundles = tuple((word, 1, (), ()) for word in words(9))
        self.bundles(None, bundles[:8])
        self.bundles(1, bundles)
        names = words(13)
        self.bundles(None, (("a", 1, names[:12], names[:12]),))
        self.bundles(1, (("a", 1, names, ()),), (("a", 1, (), names),))

    def test_strange_values_at_every_place(self):
        value = (("a", "b", 5, 6), ("a", "c", 1, 1))
        for at in places(value):
            for strange in STRANGE + (0, 1, MILLION, MILLION + 1, BILLION, BILLION + 1, "a", "b", "c"):
                changed = put(value, at, strange)
                expected = None if reference.groups(changed) else 0
                self.assertEqual(position(least_bill, (changed, BUNDLES)), expected, f"{at} {strange!r:.60}")
        value = (("a", 5, ("x", "y"), ("z",)), ("b", 6, (), ()))
        for at in places(value):
            for strange in STRANGE + (0, 1, BILLION, BILLION + 1, "a", "b", "x", "y", "z", ("a",), ["b", "c"]):
                changed = put(value, at, strange)
                expected = None if reference.bundles(changed) else 1
                self.assertEqual(position(least_bill, (GROUPS, changed)), expected, f"{at} {strange!r:.60}")


class LeastBillChecks:
    """For a TestCase: all that is promised of the least bill, of a use and of a paper."""

    def check(self, groups, bundles, expected=None):
        least = least_bill(groups, bundles)
        if expected is not None:
            self.assertEqual(least, expected, (groups, bundles))
        use = uses(groups, bundles)
        self.assertTrue(plain(use) and reference.is_use(groups, bundles, use), (groups, bundles, use))
        self.assertEqual(reference.bill(groups, use), least, (groups, bundles, use))
        worths = paper(groups, bundles)
        self.assertTrue(plain(worths))
        self.assertTrue(reference.paper_holds(groups, bundles, least, worths), (groups, bundles, worths))
        self.assertIs(paper_holds(groups, bundles, least, worths), True)
        self.assertIs(paper_holds(groups, bundles, least + 1, worths), False)
        return least


class LeastBillTest(LeastBillChecks, unittest.TestCase):

    def test_the_document_s_example(self):
        self.assertEqual((least_bill(GROUPS, BUNDLES), paper_holds(GROUPS, BUNDLES, 100, (4,))), (100, True))
        self.check(GROUPS, BUNDLES, 100)
        self.assertEqual(uses(GROUPS, BUNDLES), ((0, 0, 20), (1, 0, 5)))

    def test_nothing(self):
        self.check((), (), 0)
        self.check((), BUNDLES, 0)
        self.check(GROUPS, (), 300)
        self.assertEqual((uses((), ()), paper((), ()), uses(GROUPS, ()), paper(GROUPS, ())), ((), (), (), ()))

    def test_bundles_that_cover_nothing(self):
        for zones, bands in (((), ()), (("far",), ()), ((), ("high",)), (("near",), ("high", "low")),
                             (("far",), ("noon",)), (("high", "low"), ("far",))):
            self.check(GROUPS, (("a", 50, zones, bands),), 300)
            self.check(GROUPS, (("a", 50, zones, bands), ("b", 10, ("far",), ("high",))), 210)
        self.check(GROUPS, (("a", 0, ("far",), ("high", "low")),), 300)

    def test_bundles_that_cover_the_same_groups(self):
        same = [(word, 7, ("far",), ("high", "low")) for word in ("a", "b", "c", "d")]
        for count, expected in ((1, 237), (2, 174), (3, 300 - 180 - 4), (4, 300 - 180 - 32)):
            self.check(GROUPS, tuple(same[:count]), expected)

    def test_more_seconds_than_there_are(self):
        self.check(GROUPS, (("a", 50, ("far",), ("high", "low")),), 0)
        self.check(GROUPS, (("a", BILLION, ("far",), ("high", "low")),), 0)
        self.check(GROUPS, (("a", 49, ("far",), ("high", "low")),), 4)

    def test_seconds_that_must_be_given_back(self):
        # A bundle that might serve the dearest group has to serve the next one, which no other one covers.
        groups = (("x", "high", 9, 10), ("x", "low", 8, 10))
        bundles = (("a", 10, ("x",), ("high", "low")), ("b", 10, ("x",), ("high",)))
        self.check(groups, bundles, 0)
        self.assertEqual(uses(groups, bundles), ((0, 1, 10), (1, 0, 10)))
        bundles = (("a", 10, ("x",), ("high",)), ("b", 10, ("x",), ("high", "low")))
        self.check(groups, bundles, 0)
        self.assertEqual(uses(groups, bundles), ((0, 0, 10), (1, 1, 10)))

    def test_groups_in_a_chain(self):
        for many in range(1, 9):
            zones = words(many + 1)
            bundles = tuple((word, 10, (zones[k], zones[k + 1]), ("b",)) for k, word in enumerate(words(many)))
            for dearest in range(many + 1):
                # All groups but one can be served: the cheapest one pays, wherever it stands.
                groups = tuple((zone, "b", 9 + abs(k - dearest), 10) for k, zone in enumerate(zones))
                self.check(groups, bundles, 90)
                groups = tuple((zone, "b", 20 - abs(k - dearest), 10) for k, zone in enumerate(zones))
                self.check(groups, bundles, 10 * min(group[2] for group in groups))
                self.check(groups, tuple(put(bundle, (1,), 9) for bundle in bundles))

    def test_a_group_that_several_bundles_share(self):
        groups = (("x", "b", 5, 30), ("y", "b", 7, 3), ("z", "b", 3, 9))
        bundles = (("a", 10, ("x", "y"), ("b",)), ("b", 11, ("x",), ("b",)), ("c", 6, ("x", "z"), ("b",)))
        self.check(groups, bundles, 5 * 6 + 3 * 9)
        self.assertEqual(sum(row[2] for row in uses(groups, bundles)), 27)

    def test_prices_of_nothing(self):
        self.check((("x", "b", 0, 30), ("x", "b", 1, 5)), (("a", 3, ("x",), ("b",)),), 2)
        self.check((("x", "b", 0, 30),), (("a", 3, ("x",), ("b",)),), 0)

    def test_all_small_bundles(self):
        """Three groups that differ in price, and each way in which three bundles may cover them."""
        subsets = [tuple(zone for k, zone in enumerate("xyz") if chosen >> k & 1) for chosen in range(8)]
        for prices, many in (((3, 2, 1), (2, 2, 2)), ((1, 1, 2), (3, 1, 2)), ((5, 3, 4), (1, 3, 1))):
            groups = tuple((zone, "b", price, each) for zone, price, each in zip("xyz", prices, many))
            for zones in itertools.combinations_with_replacement(subsets, 3):
                bundles = tuple((word, seconds, each, ("b",)) for word, seconds, each in zip("abc", (1, 2, 2), zones))
                self.check(groups, bundles, reference.least_bill(groups, bundles))

    def test_lists_and_what_was_passed(self):
        groups = (("x", "b", 5, 30), ("y", "b", 7, 3), ("z", "b", 3, 9))
        bundles = (("a", 10, ("x", "y"), ("b",)), ("b", 11, ("x",), ("b",)), ("c", 6, ("x", "z"), ("b",)))
        for form in (as_lists, mixed):
            passed = (form(groups), form(bundles))
            before = copy.deepcopy(passed)
            for function in (least_bill, uses, paper):
                self.assertEqual(function(*passed), function(groups, bundles))
                self.assertTrue(plain(function(*passed)))
            worths = paper(*passed)
            self.assertTrue(paper_holds(*passed, 57, form(worths)))
            self.assertFalse(paper_holds(*passed, 58, form(worths)))
            self.assertEqual(repr(passed), repr(before))


class PaperHoldsTest(unittest.TestCase):

    def test_ordinary(self):
        for worth, most in ((0, 0), (1, 25), (4, 100), (5, 25 * -5 + 120 + 100), (9, 75), (10, 50), (12, 0), (13, -25)):
            self.assertIs(paper_holds(GROUPS, BUNDLES, most, (worth,)), True)
            self.assertIs(paper_holds(GROUPS, BUNDLES, most, [worth]), True)
            self.assertIs(paper_holds(GROUPS, BUNDLES, most + 1, (worth,)), False)
            self.assertIs(paper_holds(GROUPS, BUNDLES, -10 ** 30, (worth,)), True)
            self.assertIs(paper_holds(GROUPS, BUNDLES, 10 ** 30, (worth,)), False)

    def test_the_least_worth_of_those_that_cover(self):
        bundles = (("a", 5, ("far",), ("high",)), ("b", 6, ("far",), ("high", "low")), ("c", 0, ("near",), ("low",)))
        for worths in itertools.product((0, 1, 3, 4, 5, 9, 10), repeat=3):
            shown = reference.shown(GROUPS, bundles, worths)
            self.assertIs(paper_holds(GROUPS, bundles, shown, worths), True)
            self.assertIs(paper_holds(GROUPS, bundles, shown + 1, worths), False)

    def test_no_bundles(self):
        self.assertIs(paper_holds(GROUPS, (), 300, ()), True)
        self.assertIs(paper_holds(GROUPS, (), 300, []), True)
        self.assertIs(paper_holds(GROUPS, (), 301, ()), False)
        self.assertIs(paper_holds(GROUPS, (), 300, (0,)), False)
        self.assertIs(paper_holds((), (), 0, ()), True)
        self.assertIs(paper_holds((), (), 1, ()), False)

    def test_worths_within_their_bounds(self):
        for worth in (0, 1, MILLION - 1, MILLION):
            self.assertIs(paper_holds(GROUPS, BUNDLES, -10 ** 30, (worth,)), True)
        for worth in (-1, MILLION + 1, 10 ** 30, True, False, None, "4", (4,), [4], ""):
            self.assertIs(paper_holds(GROUPS, BUNDLES, -10 ** 30, (worth,)), False)

    def test_too_few_and_too_many(self):
        bundles = (BUNDLES[0], ("b", 5, ("near",), ("low",)))
        for value in ((), (4,), (4, 4, 4), [4], ((4, 4),), (4, (4,)), "44", 4, None, True, {}):
            self.assertIs(paper_holds(GROUPS, bundles, -10 ** 30, value), False)
        self.assertIs(paper_holds(GROUPS, bundles, -10 ** 30, (4, 4)), True)

    def test_strange_values(self):
        for strange in STRANGE:
            for groups, bundles, bound in ((GROUPS, BUNDLES, -10 ** 30), (GROUPS, (), 0), ((), (), 0)):
                expected = reference.paper_holds(groups, bundles, bound, strange)
                self.assertIs(paper_holds(groups, bundles, bound, strange), expected, repr(strange)[:60])
            self.assertIs(paper_holds(GROUPS, BUNDLES, -10 ** 30, (strange,)), False)

    def test_no_worths_hold_for_one_more(self):
        """Each way to tell worths up to the greatest price and beyond, for some small bundles."""
        groups = (("x", "b", 2, 4), ("x", "c", 3, 2), ("y", "b", 1, 3), ("y", "c", 3, 1))
        for seconds in itertools.product((0, 2, 5), repeat=3):
            bundles = tuple(zip("abc", seconds, (("x",), ("x", "y"), ("y",)), (("b",), ("b", "c"), ("c",))))
            least = least_bill(groups, bundles)
            held = [worths for worths in itertools.product(range(5), repeat=3)
                    if paper_holds(groups, bundles, least, worths)]
            self.assertIn(paper(groups, bundles), held)
            for worths in held:
                self.assertFalse(paper_holds(groups, bundles, least + 1, worths))


class RandomBundleTest(LeastBillChecks, unittest.TestCase):

    def setUp(self):
        self.chance = random.Random(20261119)

    def random_bundles(self, many, zones, bands, most):
        def some(names):
            return tuple(sorted(self.chance.sample(names, self.chance.randint(0, min(12, len(names))))))
        return tuple((word, self.chance.choice((0, 1, self.chance.randint(0, most), most)), some(zones), some(bands))
                     for word in words(many))

    def random_groups(self, many, zones, bands, most_price, most):
        keys = [(zone, band, price) for zone in zones for band in bands for price in range(most_price + 1)]
        chosen = sorted(self.chance.sample(keys, min(many, len(keys))))
        return tuple(key + (self.chance.randint(1, most),) for key in chosen)

    def test_against_all_uses(self):
        for _ in range(250):
            groups = self.random_groups(self.chance.randint(0, 3), "xy", "bc", 3, 3)
            bundles = self.random_bundles(self.chance.randint(0, 3), "xy", "bc", 4)
            self.check(groups, bundles, reference.least_bill(groups, bundles))

    def test_uses_and_papers_that_prove_one_another(self):
        """A use with this bill, and worths that hold for it, show together that it is the least one."""
        for _ in range(400):
            zones, bands = words(self.chance.randint(1, 12)), words(self.chance.randint(1, 3))
            most = self.chance.choice((5, 100, BILLION))
            groups = self.random_groups(self.chance.randint(0, 60), zones, bands, self.chance.choice((0, 3, 50)), most)
            room = min(BILLION, self.chance.choice((most, 9 * most)))
            bundles = self.random_bundles(self.chance.randint(0, 8), zones, bands, room)
            least = self.check(groups, bundles)
            for _ in range(5):
                worths = tuple(self.chance.randint(0, 50) for _ in bundles)
                self.assertIs(paper_holds(groups, bundles, least + 1, worths), False)
                shown = reference.shown(groups, bundles, worths)
                self.assertIs(paper_holds(groups, bundles, shown, worths), True)
                self.assertIs(paper_holds(groups, bundles, shown + 1, worths), False)


class LargestTest(LeastBillChecks, unittest.TestCase):
    """The most groups and bundles, with the most seconds, within a few seconds of time."""

    def timed(self, groups, bundles):
        self.assertEqual((len(groups), len(bundles)), (4000, 8))
        begin = time.perf_counter()
        least_bill(groups, bundles)
        uses(groups, bundles)
        worths = paper(groups, bundles)
        paper_holds(groups, bundles, 0, worths)
        self.assertLess(time.perf_counter() - begin, 4)
        return self.check(groups, bundles)

    def test_all_groups_in_all_bundles(self):
        groups = tuple((zone, band, price, BILLION)
                       for zone in words(8) for band in words(10) for price in range(MILLION - 49, MILLION + 1))
        bundles = tuple((word, BILLION, words(8), words(10)) for word in words(8))
        self.assertEqual(self.timed(groups, bundles), sum(group[2] for group in groups) * BILLION - 8 * 10 ** 15)

    def test_each_zone_in_its_own_bundles(self):
        """As many different covers as there can be, with few seconds and with many."""
        chance = random.Random(20261119)
        zones, bands = words(12), words(12)
        keys = [(zone, band, chance.randint(0, MILLION)) for zone in zones for band in bands for _ in range(40)]
        keys = sorted(chance.sample(sorted(set(keys)), 4000))
        for seconds in (1, 300, 10 ** 6, BILLION):
            groups = tuple(key + (chance.randint(1, seconds),) for key in keys)
            bundles = tuple((word, BILLION - chance.randrange(1000), tuple(sorted(chance.sample(zones, 8))),
                             tuple(sorted(chance.sample(bands, 8)))) for word in words(8))
            self.timed(groups, bundles)

    def test_a_chain_of_the_most_groups(self):
        """Bundles side by side, each of which shares its zones with the next one."""
        zones = words(9)
        groups = tuple((zone, band, k, BILLION - k) for zone in zones for band in words(12) for k in range(38))[:4000]
        bundles = tuple((word, BILLION, zones[at:at + 2], words(12)) for at, word in enumerate(words(8)))
        self.timed(groups, bundles)


if __name__ == "__main__":
    unittest.main()
