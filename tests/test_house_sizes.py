"""The largest sizes at once, each with an answer within a few seconds; most of them take far less."""

import random
import time
import unittest

import reference
import slow_house
from eachsecond.errors import NotNow
from eachsecond.houses import House, rebuilt
from eachsecond.purses import Purse
from house_samples import ANN, SIMPLE, TARIFF, answers, built, drawn_house, piece, state
from samples import DAY, one_band

SECONDS = 5
MILLION = 10 ** 6
LAST = 10 ** 8
BANDS = tuple(sorted("b" + one + other for one in "abcdefgh" for other in "abcdefgh"))
# Eight days of eight bands each, all different, and the most feasts.
WEEK = (tuple(tuple((10800 * at, BANDS[8 * day + at]) for at in range(8)) for day in range(8)), tuple(range(3, 23)))
BLOCKS = (("4", 5, "north"),)


def word(number):
    return "w" + "".join(chr(97 + number // 26 ** at % 26) for at in range(3))


def tariff(number):
    """A tariff with the most zones and prices, all its own."""
    zones = (("", word(number)),) + tuple((str(at), word(number * 12 + at + 1000)) for at in range(10)) + (("99", "zz"),)
    names = sorted(name for _, name in zones[1:6])
    bands = sorted(BANDS[(7 * at + number) % 64] for at in range(8))
    return (number, zones, tuple((name, band, 1000 + 41 * number + len(band + name)) for name in names for band in bands))


class SizeTest(unittest.TestCase):

    def setUp(self):
        self.chance = random.Random(20261120)

    def timed(self, call, *arguments):
        began = time.perf_counter()
        found = call(*arguments)
        self.assertLess(time.perf_counter() - began, SECONDS, getattr(call, "__name__", call))
        return found

    def full(self, cycle, pieces=150, holds=100, uses=70, tariffs=60, customers=50, many=400):
        """A house with so many facts: long pieces, and numbers, customers and tariffs that change all the time."""
        chance = self.chance
        facts = {}
        for at in range(pieces):
            facts[("piece", (word(at), at % 2))] = ("4%04d" % (at % (holds // 2)), "%d01" % (at % 10),
                                                    chance.randint(0, 50), MILLION)
        for at in range(holds):
            second = 0 if at < holds // 2 else chance.randint(1, 2 * 10 ** 5)
            facts[("hold", ("4%04d" % (at % (holds // 2)), second))] = (word(at % customers), None)
        for at in range(uses):
            facts[("uses", (word(at % customers), 0 if at < customers else chance.randint(1, MILLION)))] = word(at % 10)
        for at in range(tariffs):
            facts[("tariff", (word(at % 10), 0 if at < 10 else chance.randint(1, MILLION)))] = tariff(at)
        at = 0
        while len(facts) < many:
            names = tuple(sorted(word(1000 + at * 12 + each) for each in range(12)))
            facts[("bundle", (word(at % 5), at // 8 % 20, word(at)))] = (chance.randint(1, 10 ** 5), names, BANDS[:12])
            at += 1
        return built([key + (0, value) for key, value in facts.items()], (WEEK, BLOCKS, (), cycle, 190))

    def test_200_closings(self):
        for cycle in (1000, 1013, 100000):
            house = self.full(cycle, many=399)
            for _ in range(198):
                self.timed(house.close)
            # All customers and closed cycles are to be looked at again.
            house.tell(("tariff", (word(0), 0), 1, tariff(500)))
            before = house.invoices()
            self.assertEqual(self.timed(house.close), 198)
            corrected = {pair[0] for row in house.invoices()[len(before):] for pair in row[3]}
            self.assertGreater(len(corrected), 0)
            before = house.invoices()
            self.assertEqual(self.timed(house.close), 199)
            self.assertEqual([row for row in house.invoices()[len(before):] if row[3]], [])
            for customer in house.customers():
                for closed in (0, 1, 57, 199):
                    self.assertEqual(house.invoiced(customer, closed), house.bill(customer, closed)[3])
            self.assertEqual(self.timed(rebuilt, house.log()), house)
            self.assertRaises(NotNow, house.close)

    def test_late_facts_again_and_again(self):
        house = self.full(1000, pieces=100, holds=40, uses=40, tariffs=20, customers=20, many=200)
        began = time.perf_counter()
        for version in range(1, 200):
            house.close()
            if version % 5 == 0:
                house.tell(("hold", ("40001", 0), version, (word(version % 20), None)))
        self.assertEqual(house.close(), 199)
        self.assertLess(time.perf_counter() - began, 12 * SECONDS)
        for customer in house.customers():
            self.assertEqual(house.invoiced(customer, 7), house.bill(customer, 7)[3])

    def test_all_questions_of_a_full_house(self):
        for cycle in (1000, 10 ** 7):
            house = self.full(cycle)
            self.timed(house.facts)
            self.timed(house.plan)
            self.timed(house.owed)
            self.timed(house.customers)
            self.timed(house.copy)
            for customer in house.customers():
                self.timed(house.bill, customer, 0)
                self.timed(house.usage, customer, 999)
            self.timed(house.unheld, 200000)
            total = 0
            for at in range(1002 if cycle == 1000 else 1):
                total += house.unheld(at) + sum(row[3] for name in house.customers() for row in house.usage(name, at)[0])
            self.assertEqual(total, 150 * MILLION)

    def test_the_time_does_not_grow_with_seconds(self):
        facts = tuple(piece(word(at), 0, MILLION, at % 3) for at in range(390))
        for cycle in (10 ** 7, 1000):
            house = self.timed(built, ANN + facts, SIMPLE[:3] + (cycle, 0))
            groups, setups = self.timed(house.usage, "ann", 0)
            # Of a million seconds, the 86,400 of day 1 are a feast's.
            high = DAY if cycle == 10 ** 7 else 0
            low = min(cycle, MILLION) - high
            self.assertEqual(groups, ((("far", "high", 9, 390 * high),) if high else ()) + (("far", "low", 4, 390 * low),))
            self.assertEqual(setups, 130 * 50)

    def test_pieces_of_a_thousand_cycles(self):
        house = built(ANN + tuple(piece(word(at), 500, MILLION) for at in range(300)), SIMPLE)
        began = time.perf_counter()
        for cycle in range(1002):
            groups, setups = house.usage("ann", cycle)
            self.assertEqual(sum(group[3] for group in groups),
                             300 * (500 if cycle in (0, 1000) else 1000 if cycle < 1000 else 0))
            self.assertEqual(setups, 300 * 50 if cycle == 0 else 0)
        self.assertLess(time.perf_counter() - began, 2 * SECONDS)

    def test_more_than_4000_groups_and_eight_bundles(self):
        facts = [("hold", ("40000", 0), 0, ("ann", None)), ("uses", ("ann", 0), 0, "plain")]
        facts += [("tariff", ("plain", at * 2600), 0, (7, (("", word(at)),) + tuple(
            (str(digit), word(1000 + 9 * at + digit)) for digit in range(1, 10)), ((word(at), BANDS[0], at),)))
            for at in range(370)]
        facts += [piece(word(at), at * 100, MILLION - 10 ** 4, caller="40000", dialled="%d01" % (at + 1))
                  for at in range(9)]
        facts += [("bundle", ("ann", 0, word(at)), 0, (10 ** 6 + at, tuple(sorted(word(1000 + 9 * at + digit)
                   for digit in range(1, 10))), BANDS[:12])) for at in range(11)]
        house = built(facts, (WEEK, BLOCKS, (), 10 ** 7, 190))
        groups, setups = self.timed(house.usage, "ann", 0)
        self.assertGreater(len(groups), 4000)
        self.assertEqual(list(groups), sorted(groups))
        self.assertEqual(sum(group[3] for group in groups), 9 * (MILLION - 10 ** 4))
        self.assertEqual(setups, 9 * 7)
        net, parts, tax, total = self.timed(house.bill, "ann", 0)
        self.assertEqual(sum(part for _, part in parts), net)
        self.assertGreater(len(parts), 40)
        self.assertEqual((tax, total), (reference.tax(net, 190), net + tax))
        self.assertEqual(self.timed(house.close), 0)
        self.assertEqual(house.invoices(), (("ann", 0, total, ()),) if total else ())

    def test_bills_beyond_what_shares_and_tax_take(self):
        dear = (MILLION, (("", "far"), ("1", "near")), (("far", "low", MILLION), ("near", "low", MILLION)))
        week = one_band()
        facts = [("hold", ("4000", 0), 0, ("ann", None)), ("uses", ("ann", 0), 0, "p"), ("tariff", ("p", 0), 0, dear)]
        facts += [piece(word(at), 5, MILLION, at % 2 * 5, dialled="11" if at % 3 else "5000") for at in range(397)]
        house = built(facts, (week, SIMPLE[1], (), 10 ** 7, 1000))
        net = 397 * 10 ** 12 + 199 * MILLION
        far = 133 * 10 ** 12 + 1
        shares = reference.shares(net, (far, 264 * 10 ** 12 + 1))
        self.assertEqual(house.bill("ann", 0), (net, (("far", shares[0]), ("near", shares[1])), net, 2 * net))
        for _ in range(11):
            house.close()
        self.assertEqual(house.balance("ann"), 2 * net)

    def test_groups_beyond_what_bundles_take(self):
        # 397 million seconds in one group, and bundles of 10 ** 9.
        facts = ANN + tuple(piece(word(at), 2 * DAY, MILLION, 1) for at in range(395))
        facts += (("bundle", ("ann", 0, "x"), 0, (10 ** 8, ("far",), ("low",))),
                  ("bundle", ("ann", 0, "y"), 0, (10 ** 9, ("home",), ("low",))))
        house = built(facts, SIMPLE[:3] + (10 ** 7, 0))
        self.assertEqual(house.bill("ann", 0)[0], 4 * (395 * MILLION - 10 ** 8))

    def test_both_sides_of_the_last_second(self):
        facts = tuple(piece(word(at), LAST - at, MILLION, 1) for at in range(0, 380))
        house = built(ANN + facts, SIMPLE)
        self.assertEqual(self.timed(house.usage, "ann", 100000)[0], (("far", "low", 4, 380 * 1000),))
        self.assertEqual(self.timed(house.usage, "ann", 99999)[0], (("far", "low", 4, sum(range(380))),))

    def test_tens_of_thousands_of_ordinary_houses(self):
        """A hundredth of them, within a hundredth of minutes."""
        houses = [drawn_house(self.chance, 30) for _ in range(300)]
        began = time.perf_counter()
        for house in houses:
            state(house.copy())
        self.assertLess(time.perf_counter() - began, SECONDS)

    def test_a_long_log(self):
        house = House(*SIMPLE)
        began = time.perf_counter()
        for at in range(20000):
            house.tell(ANN[at % 3])
            house.pay("ann", at + 1)
        self.assertLess(time.perf_counter() - began, SECONDS)
        again = self.timed(rebuilt, house.log())
        self.assertEqual(again, house)
        self.assertEqual(again.balance("ann"), -20000 * 20001 // 2)
        self.assertEqual(answers(again), answers(built(ANN, SIMPLE)))


class PurseSizeTest(unittest.TestCase):

    def test_the_longest_calls(self):
        prices = tuple(("far", name, 10 ** 6) for name in BANDS[:40])
        purse = Purse(WEEK, (MILLION, (("", "far"),), prices), 10 ** 12)
        began = time.perf_counter()
        for at in range(400):
            purse.put(10 ** 12)
            purse.begin(word(at), "5000", LAST - at, MILLION)
            purse.more(word(at), MILLION)
        for call, granted, _ in purse.running():
            purse.end(call, granted // 2)
        self.assertLess(time.perf_counter() - began, SECONDS)
        self.assertEqual(purse.held(), 0)
        self.assertEqual(purse.money(), 401 * 10 ** 12 - sum(cost for _, cost in purse.ended()))

    def test_many_calls(self):
        purse = Purse(one_band(), TARIFF, 10 ** 12)
        began = time.perf_counter()
        for at in range(10000):
            purse.begin(word(at), "5000", at, 10)
        for at in range(0, 10000, 2):
            purse.end(word(at), 5)
        self.assertLess(time.perf_counter() - began, SECONDS)
        self.assertEqual(purse.held(), 5000 * 90)
        self.assertEqual(purse.money(), 10 ** 12 - 5000 * 70)
        self.assertEqual(len(purse.running()), 5000)


class SlowTest(unittest.TestCase):

    def test_a_full_house_by_the_slow_reading(self):
        """Some cycles of a house with 400 facts, second by second."""
        chance = random.Random(20261122)
        facts = {}
        for at in range(40):
            facts[("piece", (word(at), at % 2))] = ("4%04d" % (at % 20), "%d01" % (at % 10), chance.randint(0, 2000), 60)
        for at in range(160):
            facts[("hold", ("4%04d" % (at % 20), chance.randint(0, 2000)))] = (word(at % 9), None)
        for at in range(100):
            facts[("uses", (word(at % 9), chance.randint(0, 2000)))] = word(at % 10)
        while len(facts) < 400:
            facts[("tariff", (word(len(facts) % 10), chance.randint(0, 2000)))] = tariff(len(facts))
        told = [key + (0, value) for key, value in facts.items()]
        house, slow = built(told, (WEEK, BLOCKS, (), 1000, 190)), slow_house.SlowHouse(WEEK, BLOCKS, (), 1000, 190)
        for fact in told:
            slow.tell(fact)
        self.assertEqual(house.facts(), slow.facts())
        for cycle in range(4):
            self.assertEqual(house.unheld(cycle), slow.unheld(cycle))
            for customer in house.customers():
                self.assertEqual(house.usage(customer, cycle), slow.usage(customer, cycle))


if __name__ == "__main__":
    unittest.main()
