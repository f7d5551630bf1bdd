import itertools
import random
import unittest

import reference
from calls import CallChecks, position
from eachsecond.tariffs import cost, cost_of, is_tariff, most, most_of, price, tariffs_part, zone
from samples import CALM, DAY, STRANGE, VARIED, WEEK, as_lists, mixed, one_band, places, put

LAST = 10 ** 8
MILLION = 10 ** 6
TARIFF = (50, (("", "far"), ("40", "home")), (("far", "high", 9), ("far", "low", 4), ("home", "high", 2)))
FREE = (0, (("", "far"),), ())
# Prefixes within one another; a zone that two of them share; zones and bands without a price; prices that nobody asks.
DEEP = (7, (("", "far"), ("1", "near"), ("11", "home"), ("112", "help"), ("2", "near"), ("40", "home")), (
    ("far", "a", 3), ("far", "mid", 1), ("help", "mid", 0), ("home", "a", MILLION), ("near", "b", 5),
    ("near", "mid", 2), ("other", "a", 8)))


class TariffCallTest(CallChecks, unittest.TestCase):
    CALLS = (
        (zone, "tariff number", (TARIFF, "40123")),
        (price, "tariff week number second", (TARIFF, WEEK, "40123", 30000)),
        (cost, "tariff week number begin length", (TARIFF, WEEK, "50123", 28790, 30)),
        (most, "tariff week number begin money cap", (TARIFF, WEEK, "50123", 28790, 100, 600)),
        (tariffs_part, "one other week", (TARIFF, put(TARIFF, (2, 1, 2), 5), WEEK)),
    )

    def takes(self, function, at, strange):
        # This is no second, but it is money.
        return function is most and at == 4 and strange == LAST + 1

    def test_is_tariff_by_name(self):
        self.assertIs(is_tariff(value=TARIFF), True)

    def test_numbers_of_all_lengths(self):
        for function, at, rest in ((zone, 1, ()), (price, 2, (0,)), (cost, 2, (0, 0)), (most, 2, (0, 0, 0))):
            before = (TARIFF, WEEK)[:at]
            for good in ("00", "12", "123", "1234", "12345", "123456", "1234567", "00000000"):
                self.assertIsNone(position(function, before + (good,) + rest))
            for bad in ("", "1", "123456789", "1a", "a1", "12 ", "-1", "1\n", 12, 123, None, ["12"], ("1", "2")):
                self.assertEqual(position(function, before + (bad,) + rest), at)

    def bounded(self, function, before, most_there_may_be, rest=()):
        for good in (0, 1, most_there_may_be - 1, most_there_may_be):
            self.assertIsNone(position(function, before + (good,) + rest))
        for bad in (-1, most_there_may_be + 1, True, False, None, "0", "", (0,), [0], 10 ** 30):
            self.assertEqual(position(function, before + (bad,) + rest), len(before))

    def test_integers_within_their_bounds(self):
        self.bounded(price, (TARIFF, WEEK, "12"), LAST)
        self.bounded(cost, (TARIFF, WEEK, "12"), LAST, (5,))
        self.bounded(cost, (TARIFF, WEEK, "12", 5), MILLION)
        self.bounded(most, (TARIFF, WEEK, "12"), LAST, (5, 5))
        self.bounded(most, (TARIFF, WEEK, "12", 5), 10 ** 12, (5,))
        self.bounded(most, (TARIFF, WEEK, "12", 5, 5), MILLION)

    def test_each_argument_is_refused_ahead_of_the_next(self):
        bad = (put(TARIFF, (0,), -1), (WEEK[0], None), "1", -1, -1, -1)
        for function, good in ((price, (TARIFF, WEEK, "12", 5)), (cost, (TARIFF, WEEK, "12", 5, 5)),
                               (most, (TARIFF, WEEK, "12", 5, 5, 5))):
            for at in range(len(good)):
                self.assertEqual(position(function, good[:at] + bad[at:len(good)]), at)
        self.assertEqual(position(zone, bad[:1] + bad[2:3]), 0)
        self.assertEqual(position(tariffs_part, (bad[0], bad[0], bad[1])), 0)
        self.assertEqual(position(tariffs_part, (FREE, bad[0], bad[1])), 1)
        self.assertEqual(position(tariffs_part, (FREE, TARIFF, bad[1])), 2)


class IsTariffTest(unittest.TestCase):

    def taken(self, *values):
        for value in values:
            for form in (value, as_lists(value), mixed(value)):
                self.assertIs(is_tariff(form), True, repr(value)[:200])

    def refused(self, *values):
        for value in values:
            for form in (value, as_lists(value), mixed(value)):
                self.assertIs(is_tariff(form), False, repr(value)[:200])

    def zones(self, *rows):
        return (0, rows, ())

    def prices(self, *rows):
        return (0, (("", "far"),), rows)

    def test_ordinary(self):
        self.taken(TARIFF, FREE, DEEP)
        self.refused(TARIFF[:2], TARIFF + ((),), TARIFF[1], (0, None, ()), (0, (("", "far"),), None), "abc", None)

    def test_setup(self):
        self.taken(*[(setup,) + FREE[1:] for setup in (0, 1, MILLION)])
        self.refused(*[(setup,) + FREE[1:] for setup in (-1, MILLION + 1, True, False, None, "0", (0,))])

    def test_zones(self):
        self.taken(self.zones(("", "a"), ("0", "abcdefgh"), ("00", "a"), ("000", "b"), ("1", "a"), ("999", "a")))
        self.refused(self.zones(), self.zones(("1", "a")), self.zones(("", "a"), ("1234", "b")))
        self.refused(self.zones(("", "a"), ("", "b")), self.zones(("", "a"), ("1", "b"), ("1", "c")))
        self.refused(self.zones(("1", "a"), ("", "b")), self.zones(("", "a"), ("2", "b"), ("1", "b")))
        self.refused(self.zones(("", "a"), ("12", "b"), ("1", "b")), self.zones(("", "a"), ("9", "b"), ("10", "b")))
        self.refused(self.zones(("", "a"), ("1a", "b")), self.zones(("", "a"), (" ", "b")), self.zones((None, "a")))
        self.refused(self.zones(("", "")), self.zones(("", "A")), self.zones(("", "abcdefghi")), self.zones(("", None)))
        self.refused(self.zones(("",)), self.zones(("", "a", "b")), self.zones("a"), self.zones(("", "a"), "1a"))

    def test_prices(self):
        self.taken(self.prices(("a", "b", 0), ("a", "c", MILLION), ("abcdefgh", "abcdefgh", 1)))
        self.taken(self.prices(("a", "b", 5), ("a", "c", 4), ("b", "a", 3)))
        self.refused(self.prices(("a", "b", 5), ("a", "b", 6)), self.prices(("a", "b", 5), ("a", "b", 5)))
        self.refused(self.prices(("a", "c", 5), ("a", "b", 6)), self.prices(("b", "a", 5), ("a", "b", 6)))
        for worth in (-1, MILLION + 1, True, None, "1", (1,)):
            self.refused(self.prices(("a", "b", worth)))
        for name in ("", "A", "abcdefghi", "a1", None, 1):
            self.refused(self.prices(("a", name, 1)), self.prices((name, "b", 1)))
        self.refused(self.prices(("a", "b")), self.prices(("a", "b", 1, 1)), self.prices("ab"), self.prices(1))

    def test_the_most_members_and_one_more(self):
        zones = (("", "a"),) + tuple((str(100 + k), "a") for k in range(12))
        prices = tuple(("a", "b" + chr(97 + k // 26) + chr(97 + k % 26), k) for k in range(41))
        self.taken((0, zones[:12], prices[:40]))
        self.refused((0, zones, prices[:40]), (0, zones[:12], prices))

    def test_strange_values(self):
        for strange in STRANGE:
            self.assertIs(is_tariff(strange), False, repr(strange)[:60])

    def test_strange_values_at_every_place(self):
        value = (5, (("", "far"), ("1", "near"), ("12", "far")), (("far", "a", 3), ("near", "a", 0), ("near", "b", 1)))
        for at in places(value):
            for strange in STRANGE + (0, 1, MILLION, MILLION + 1, "0", "11", "9", "999", "1234", "a", "b", "zone"):
                changed = put(value, at, strange)
                self.assertIs(is_tariff(changed), reference.tariff(changed), f"{at} {strange!r:.60}")


class ZoneTest(unittest.TestCase):

    def test_the_longest_prefix(self):
        told = {"111": "home", "11": "home", "112": "help", "1129": "help", "11299999": "help", "113": "home",
                "121": "near", "10": "near", "211": "near", "20": "near", "30": "far", "00112": "far", "40": "home",
                "411": "far", "400": "home", "40000000": "home", "99999999": "far"}
        for form in (DEEP, as_lists(DEEP), mixed(DEEP)):
            self.assertEqual({number: zone(form, number) for number in told}, told)

    def test_numbers_shorter_than_a_prefix(self):
        tariff = (0, (("", "far"), ("123", "home")), ())
        self.assertEqual([zone(tariff, number) for number in ("12", "123", "1234", "124")],
                         ["far", "home", "home", "far"])


class PriceTest(unittest.TestCase):

    def test_ordinary(self):
        told = [price(TARIFF, WEEK, number, second)
                for number in ("50123", "40123") for second in (28799, 28800, 64799, 64800)]
        self.assertEqual(told, [4, 9, 9, 4, 0, 2, 2, 0])

    def test_no_price_and_a_price_of_nothing(self):
        self.assertEqual(price(FREE, WEEK, "123", 0), 0)
        self.assertEqual(price(put(TARIFF, (2, 1, 2), 0), WEEK, "123", 0), 0)
        self.assertEqual(price(put(TARIFF, (2, 1, 2), MILLION), WEEK, "123", 0), MILLION)
        self.assertEqual(price(TARIFF, VARIED, "123", 0), 0)

    def test_all_numbers_and_bands(self):
        for number in ("10", "11", "112", "1123", "12", "20", "30", "40", "41", "11211211", "20000000"):
            for second in range(0, 15 * DAY, 30000):
                expected = reference.price(DEEP, VARIED, number, second)
                self.assertEqual(price(DEEP, VARIED, number, second), expected)
                self.assertEqual(price(as_lists(DEEP), mixed(VARIED), number, second), expected)

    def test_the_end_of_time(self):
        self.assertEqual(price(TARIFF, WEEK, "50123", LAST), 9)
        self.assertEqual(price(TARIFF, WEEK, "40123", LAST), 2)


class CostTest(unittest.TestCase):

    def test_the_document_s_example(self):
        self.assertEqual(cost(TARIFF, WEEK, "50123", 28790, 30), 270)
        self.assertEqual(most(TARIFF, WEEK, "50123", 28790, 100, 600), 16)

    def test_no_second(self):
        for begin in (0, DAY - 1, LAST):
            self.assertEqual(cost(TARIFF, WEEK, "50123", begin, 0), 50)
            self.assertEqual(cost(put(TARIFF, (0,), MILLION), WEEK, "50123", begin, 0), MILLION)
            self.assertEqual(cost(FREE, WEEK, "50123", begin, 0), 0)

    def test_the_last_second_of_a_day_and_of_a_feast(self):
        tariff = (0, (("", "far"),), (("far", "high", 5), ("far", "low", 3)))
        week = one_band((2, 1000))
        for begin, expected in ((2 * DAY - 1, (3, 8, 13)), (3 * DAY - 1, (5, 8, 11)), (5 * DAY - 1, (3, 6, 9)),
                                (1000 * DAY - 1, (3, 8, 13)), (1001 * DAY - 1, (5, 8, 11))):
            self.assertEqual(tuple(cost(tariff, week, "123", begin, length) for length in (1, 2, 3)), expected)
        self.assertEqual(cost(tariff, week, "123", 2 * DAY - 10, DAY + 20), 3 * 20 + 5 * DAY)

    def test_above_the_end_of_time(self):
        # The last second stands in the band high of its day.
        end = 1157 * DAY + 64800
        self.assertEqual(cost(TARIFF, WEEK, "50123", LAST, 1), 59)
        self.assertEqual(cost(TARIFF, WEEK, "50123", LAST, end - LAST), 50 + 9 * (end - LAST))
        self.assertEqual(cost(TARIFF, WEEK, "50123", LAST, end - LAST + 1), 54 + 9 * (end - LAST))
        self.assertEqual(cost(DEEP, VARIED, "30", LAST, 10 ** 5), reference.cost(DEEP, VARIED, "30", LAST, 10 ** 5))

    def test_the_longest_calls(self):
        number = "30"
        bands = [[reference.band(((day,) * 8, ()), rest) for rest in range(DAY)] for day in VARIED[0]]
        prices = {name: reference.price_in(DEEP, number, name) for names in bands for name in set(names)}
        for begin in (0, DAY - 1, LAST):
            total = DEEP[0]
            for second in range(begin, begin + MILLION):
                day = second // DAY
                total += prices[bands[7 if day in VARIED[1] else day % 7][second % DAY]]
            self.assertEqual(cost(DEEP, VARIED, number, begin, MILLION), total)
            self.assertEqual(most(DEEP, VARIED, number, begin, total - DEEP[0], MILLION), MILLION)

    def test_the_greatest_prices(self):
        dear = (MILLION, (("", "far"),), (("far", "low", MILLION),))
        self.assertEqual(cost(dear, one_band(), "123", LAST, MILLION), MILLION + 10 ** 12)
        self.assertEqual(most(dear, one_band(), "123", LAST, 10 ** 12, MILLION), MILLION)
        self.assertEqual(most(dear, one_band(), "123", LAST, 10 ** 12 - 1, MILLION), MILLION - 1)

    def test_costs_of_a_cut_call_add_up(self):
        chance = random.Random(20261119)
        for _ in range(300):
            begin, length = chance.randrange(12 * DAY), chance.choice((chance.randrange(90000), MILLION))
            cut = chance.randint(0, length)
            parts = [cost(DEEP, VARIED, "121", begin, cut), cost(DEEP, VARIED, "121", begin + cut, length - cut)]
            self.assertEqual(sum(parts) - DEEP[0], cost(DEEP, VARIED, "121", begin, length))

    def test_any_begin_and_length_inside(self):
        self.assertEqual(cost_of(TARIFF, one_band(), "123", 10 ** 10, 10 ** 7), 50 + 4 * 10 ** 7)
        self.assertEqual(most_of(TARIFF, one_band(), "123", 10 ** 10, 10 ** 13, 10 ** 7), 10 ** 7)
        self.assertEqual(most_of(TARIFF, one_band(), "123", 10 ** 10, 4 * 10 ** 6 - 1, 10 ** 7), 10 ** 6 - 1)


class MostTest(unittest.TestCase):

    def test_no_cap_and_no_money(self):
        self.assertEqual(most(TARIFF, WEEK, "50123", 0, 10 ** 12, 0), 0)
        self.assertEqual(most(TARIFF, WEEK, "50123", 0, 0, 600), 0)
        self.assertEqual(most(FREE, WEEK, "50123", 0, 0, 600), 600)
        self.assertEqual(most(FREE, WEEK, "50123", LAST, 0, MILLION), MILLION)

    def test_the_setup_is_left_aside(self):
        self.assertEqual(most(put(TARIFF, (0,), MILLION), WEEK, "50123", 0, 40, 600), 10)

    def test_seconds_that_cost_nothing_behind_the_last_one_that_is_paid(self):
        # Ten seconds at 2, then free ones, then those at 2 of the next day.
        begin = 64790
        for money, expected in ((19, 9), (20, 10 + DAY - 36000), (21, 10 + DAY - 36000), (22, 11 + DAY - 36000)):
            self.assertEqual(most(TARIFF, WEEK, "40123", begin, money, MILLION), expected)
        self.assertEqual(most(TARIFF, WEEK, "40123", begin, 20, 10), 10)
        self.assertEqual(most(TARIFF, WEEK, "40123", begin, 20, 11), 11)

    def test_money_that_pays_exactly_one_less_and_one_more(self):
        for number, begin, length in itertools.product(
                ("30", "11", "121", "20000000"), (0, 999, DAY - 1, 2 * DAY - 2, 11 * DAY - 1, LAST), (1, 7, 2000)):
            exact = reference.cost(DEEP, VARIED, number, begin, length) - DEEP[0]
            for money in (exact - 1, exact, exact + 1):
                if money >= 0:
                    expected = reference.most(DEEP, VARIED, number, begin, money, 2500)
                    self.assertEqual(most(DEEP, VARIED, number, begin, money, 2500), expected)
            self.assertGreaterEqual(most(DEEP, VARIED, number, begin, exact, 2500), length)
            if exact:
                self.assertLess(most(DEEP, VARIED, number, begin, exact - 1, 2500), length)

    def test_it_is_the_greatest_one(self):
        chance = random.Random(20261119)
        for _ in range(500):
            begin, cap = chance.randrange(12 * DAY), chance.randint(0, MILLION)
            number = chance.choice(("30", "11", "121", "20000000"))
            money = chance.choice((chance.randrange(3000), chance.randrange(10 ** 7), 10 ** 12))
            many = most(DEEP, VARIED, number, begin, money, cap)
            self.assertTrue(0 <= many <= cap)
            self.assertLessEqual(cost(DEEP, VARIED, number, begin, many) - DEEP[0], money)
            if many < cap:
                self.assertGreater(cost(DEEP, VARIED, number, begin, many + 1) - DEEP[0], money)


class TariffsPartTest(unittest.TestCase):

    def parts(self, one, other, week, expected):
        for forms in ((one, other, week), (other, one, week), (as_lists(one), other, as_lists(week))):
            self.assertEqual(tariffs_part(*forms), expected)
        self.assertIsNone(tariffs_part(one, as_lists(one), week))
        if expected is not None:
            length, begin, number = expected
            self.assertNotEqual(cost(one, week, number, begin, length), cost(other, week, number, begin, length))

    def test_nowhere(self):
        self.parts(FREE, FREE, WEEK, None)
        self.parts(TARIFF, TARIFF, WEEK, None)
        self.parts(FREE, put(TARIFF[:2] + ((),), (0,), 0), WEEK, None)
        self.parts(FREE, (0, (("", "near"),), ()), WEEK, None)
        # Prices of nothing, of zones that are not there, and of bands that no day has.
        self.parts(FREE, FREE[:2] + ((("far", "low", 0),),), WEEK, None)
        self.parts(FREE, FREE[:2] + ((("near", "low", 5), ("nearer", "low", 5)),), WEEK, None)
        self.parts(FREE, FREE[:2] + ((("far", "noon", 5),),), WEEK, None)

    def test_the_setup_alone(self):
        self.parts(TARIFF, put(TARIFF, (0,), 51), WEEK, (0, 0, "000"))
        self.parts(TARIFF, put(put(TARIFF, (0,), 49), (2, 1, 2), 5), WEEK, (0, 0, "000"))

    def test_the_band_of_a_second(self):
        self.parts(TARIFF, put(TARIFF, (2, 1, 2), 5), WEEK, (1, 0, "000"))
        self.parts(TARIFF, put(TARIFF, (2, 0, 2), 8), WEEK, (1, 28800, "000"))
        self.parts(TARIFF, put(TARIFF, (2, 2, 2), 3), WEEK, (1, 28800, "400"))
        self.parts(TARIFF, TARIFF[:2] + (TARIFF[2] + (("home", "low", 1),),), WEEK, (1, 0, "400"))

    def test_the_band_of_a_feast_alone(self):
        dear = FREE[:2] + ((("far", "high", 5),),)
        for feasts, begin in (((0,), 0), ((1000,), 1000 * DAY), ((999, 1000), 999 * DAY), ((7, 500), 7 * DAY)):
            self.parts(FREE, dear, one_band(feasts), (1, begin, "000"))
            late = one_band(feasts, ((0, "low"), (DAY - 1, "high")))
            self.parts(FREE, dear, late, (1, begin + DAY - 1, "000"))
        self.parts(FREE, dear, one_band(()), None)

    def test_the_band_of_one_day_of_the_week_alone(self):
        dear = FREE[:2] + ((("far", "high", 5),),)
        for day in range(7):
            week = ((CALM,) * day + (((0, "low"), (60, "high")),) + (CALM,) * (7 - day), (7,))
            self.parts(FREE, dear, week, (1, day * DAY + 60, "000"))
            self.parts(FREE, dear, (week[0], (day,)), (1, (7 + day) * DAY + 60, "000"))

    def test_a_week_s_day_that_feasts_hide(self):
        # Only Thursdays are high, and the first twenty ones are feasts.
        week = ((CALM,) * 3 + (((0, "low"), (9, "high")),) + (CALM,) * 4, tuple(range(3, 143, 7)))
        dear = FREE[:2] + ((("far", "high", 5),),)
        self.parts(FREE, dear, week, (1, 143 * DAY + 9, "000"))
        self.parts(FREE, dear, (week[0], week[1][:-1]), (1, 136 * DAY + 9, "000"))
        self.parts(FREE, dear, (week[0], ()), (1, 3 * DAY + 9, "000"))

    def test_the_least_number(self):
        low = (("far", "low", 4),)
        for prefixes, expected in (
                (("0",), "100"), (("00",), "010"), (("000",), "001"), (("0", "1"), "200"), (("00", "010"), "011"),
                (("000", "001", "002"), "003"), (("0", "1", "2", "3", "4", "5", "6", "7", "8", "90"), "910"),
                (("0", "1", "2", "3", "4", "5", "6", "7", "8", "9"), None)):
            # Numbers with none of the prefixes are far; the others cost nothing.
            zones = (("", "far"),) + tuple((prefix, "home") for prefix in prefixes)
            expected = expected and (1, 0, expected)
            self.parts((0, zones, low), (0, zones, ()), WEEK, expected)
        for prefix, expected in (("9", "900"), ("05", "050"), ("999", "999"), ("000", "000")):
            zones = (("", "home"), (prefix, "far"))
            self.parts((0, zones, low), (0, zones, ()), WEEK, (1, 0, expected))

    def test_a_prefix_behind_the_end_of_a_longer_one(self):
        zones = (("", "home"), ("5", "far"), ("50", "home"), ("510", "home"))
        self.parts((0, zones, (("far", "low", 4),)), FREE, WEEK, (1, 0, "511"))
        zones = (("", "home"), ("5", "far"), ("59", "home"), ("6", "far"), ("60", "home"))
        self.parts((0, zones[:3], (("far", "low", 4),)), (0, zones, (("far", "low", 4),)), WEEK, (1, 0, "610"))

    def test_the_least_second_goes_ahead_of_the_least_number(self):
        one = (0, (("", "far"), ("9", "home")), (("far", "high", 4), ("home", "low", 3)))
        self.parts(one, FREE, WEEK, (1, 0, "900"))
        self.parts(one, FREE, (WEEK[0][:1] * 8, (0,)), (1, 0, "900"))

    def test_short_numbers_do_not_count(self):
        # Of two digits only 11 is far; of three, none is.
        zones = (("", "home"), ("11", "far")) + tuple((f"11{k}", "home") for k in range(10))
        self.parts((0, zones, (("far", "low", 4),)), FREE, WEEK, None)
        self.assertEqual(price((0, zones, (("far", "low", 4),)), WEEK, "11", 0), 4)

    def test_calls_that_reach_above_the_end_of_time(self):
        # What is high above the last second is high before it, too.
        rest = LAST - 1157 * DAY
        week = put(one_band(), (0, 2), ((0, "low"), (rest + 1, "high")))
        dear = FREE[:2] + ((("far", "high", 5),),)
        self.assertEqual(cost(dear, week, "000", LAST, 2), 5)
        self.parts(FREE, dear, week, (1, 2 * DAY + rest + 1, "000"))


class RandomTariffTest(unittest.TestCase):

    def setUp(self):
        self.chance = random.Random(20261119)

    def random_week(self):
        days = ()
        for _ in range(7):
            starts = self.chance.sample(range(1, self.chance.choice((9, DAY))), self.chance.randint(0, 3))
            days += (tuple((start, self.chance.choice("abc")) for start in [0] + sorted(starts)),)
        feast = ((0, self.chance.choice("abcd")), (self.chance.choice((5, DAY - 1)), self.chance.choice("abcd")))
        return (days + (feast,), tuple(sorted(self.chance.sample(range(1001), self.chance.randint(0, 3)))))

    def random_tariff(self):
        digits = self.chance.choice(("01", "0123456789"))
        prefixes = {"".join(self.chance.choice(digits) for _ in range(self.chance.randint(1, 3)))
                    for _ in range(self.chance.randint(0, 11))}
        zones = tuple((prefix, self.chance.choice("xyz")) for prefix in [""] + sorted(prefixes))
        keys = sorted(self.chance.sample([(x, b) for x in "xyz" for b in "abcd"], self.chance.randint(0, 12)))
        prices = tuple(key + (self.chance.choice((0, 1, 2, 1000)),) for key in keys)
        return (self.chance.choice((0, 50)), zones, prices)

    def near(self, tariff):
        """The tariff, with one thing at another value."""
        setup, zones, prices = tariff
        kind = self.chance.randrange(4)
        if kind == 0 and prices:
            return put(tariff, (2, self.chance.randrange(len(prices)), 2), 3)
        if kind == 1:
            return put(tariff, (1, self.chance.randrange(len(zones)), 1), self.chance.choice("xyz"))
        if kind == 2 and len(zones) > 1:
            at = self.chance.randrange(1, len(zones))
            return (setup, zones[:at] + zones[at + 1:], prices)
        return (setup, zones, prices[1:])

    def test_costs_and_most(self):
        for _ in range(150):
            tariff, week = self.random_tariff(), self.random_week()
            self.assertTrue(is_tariff(tariff) and reference.tariff(tariff) and reference.week(week))
            number = self.chance.choice(("00", "01", "11", "000", "0110", "10101010", "50000"))
            edge = self.chance.choice((DAY, 3 * DAY, 7 * DAY, LAST, 1000 * DAY))
            begin = max(0, edge - self.chance.choice((0, 1, 5, 300)))
            begin = min(begin, LAST)
            length = self.chance.choice((0, 1, 2, 10, 700))
            expected = reference.cost(tariff, week, number, begin, length)
            self.assertEqual(cost(tariff, week, number, begin, length), expected)
            money = self.chance.choice((0, 1, 50, 500, 10 ** 6))
            told = reference.most(tariff, week, number, begin, money, length)
            self.assertEqual(most(tariff, week, number, begin, money, length), told)
            self.assertEqual(zone(tariff, number), reference.zone(tariff, number))

    def test_tariffs_that_part(self):
        alike = 0
        for _ in range(400):
            one, week = self.random_tariff(), self.random_week()
            near = self.near(one)
            other = self.chance.choice((near, near, self.near(near), self.random_tariff()))
            expected = reference.tariffs_part(one, other, week)
            self.assertEqual(tariffs_part(one, other, week), expected, (one, other, week))
            self.assertEqual(tariffs_part(as_lists(other), one, mixed(week)), expected)
            alike += expected is None
            self.no_lesser_call(one, other, week, expected)
        self.assertTrue(60 < alike < 340, alike)

    def no_lesser_call(self, one, other, week, parting):
        """Some calls ahead of the one that parts them cost the same by both."""
        for _ in range(4):
            number = "".join(self.chance.choice("0123456789") for _ in range(self.chance.randint(3, 8)))
            begin, length = self.chance.choice((0, LAST, self.chance.randint(0, LAST))), self.chance.randint(0, MILLION)
            call = (length, begin, (len(number), number))
            if parting is None or call < parting[:2] + ((3, parting[2]),):
                self.assertEqual(cost(one, week, number, begin, length), cost(other, week, number, begin, length))


if __name__ == "__main__":
    unittest.main()
