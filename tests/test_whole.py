"""What holds over the whole program: objects and answers of the package passed to it again."""

import copy
import unittest

from calls import position
from eachsecond.bundles import least_bill, paper, paper_holds, uses
from eachsecond.carriers import payments, settles
from eachsecond.errors import BadRow, BadText, BadValue
from eachsecond.houses import House, rebuilt
from eachsecond.plans import first_circle, holder, is_plan, plans_part, ring
from eachsecond.purses import Purse
from eachsecond.shares import shares, tax
from eachsecond.tariffs import cost, is_tariff, most, price, tariffs_part, zone
from eachsecond.texts import parse, printed
from eachsecond.weeks import band, is_week, next_change, seconds_in
from house_samples import ANN, ARGUMENTS, PLAIN, SIMPLE, TARIFF, WEEK, piece, simple
from samples import places, put

GROUPS = (("far", "high", 9, 20), ("far", "low", 4, 30))
BUNDLES = (("any", 25, ("far",), ("high", "low")),)
PLAN = ((("40", 5, "north"),), (("40123", 0, "ann", None),), (("11", 0, "40123"),))
ACCOUNTS = (("east", -7), ("north", 7))

CALLS = (
    (ring, (PLAN, "11", 5)), (holder, (PLAN, "11", 5)), (first_circle, (PLAN,)), (plans_part, (PLAN, PLAN)),
    (band, (WEEK, 5)), (next_change, (WEEK, 5)), (seconds_in, (WEEK, 5, 9, "low")),
    (zone, (PLAIN, "11")), (price, (PLAIN, WEEK, "11", 5)), (cost, (PLAIN, WEEK, "11", 5, 9)),
    (most, (PLAIN, WEEK, "11", 5, 100, 9)), (tariffs_part, (PLAIN, TARIFF, WEEK)),
    (least_bill, (GROUPS, BUNDLES)), (uses, (GROUPS, BUNDLES)), (paper, (GROUPS, BUNDLES)),
    (lambda groups, bundles, bound: paper_holds(groups, bundles, bound, (4,)), (GROUPS, BUNDLES, 100)),
    (shares, (100, (1, 2))), (tax, (100, 5)), (payments, (ACCOUNTS,)), (printed, (ANN[0],)),
    (lambda accounts: settles(accounts, ()), (ACCOUNTS,)), (House, ARGUMENTS), (Purse, (WEEK, PLAIN, 5)),
)


def objects():
    """What the package returned, and what is none of the values that may be passed otherwise."""
    house = simple(piece("c", 0, 5))
    purse = Purse(WEEK, PLAIN, 500)
    return [house, purse, house.copy(), rebuilt(house.log()), [house], (purse,), (house, purse), ((house,), ((purse,),))]


class ObjectTest(unittest.TestCase):

    def test_objects_are_refused_in_each_place(self):
        for function, good in CALLS:
            self.assertIsNone(position(function, good))
            for at in range(len(good)):
                for each in objects():
                    self.assertEqual(position(function, good[:at] + (each,) + good[at + 1:]), at, function)

    def test_objects_within_arguments(self):
        for function, good in CALLS:
            for at, value in enumerate(good):
                for place in places(value)[1:]:
                    for each in objects()[:2]:
                        told = position(function, good[:at] + (put(value, place, each),) + good[at + 1:])
                        self.assertEqual(told, at, (function, at, place))

    def test_objects_passed_to_methods(self):
        house, purse = objects()[:2]
        before = house.copy(), purse.copy()
        for thing, name, good in (
                (house, "tell", (ANN[0],)), (house, "ring", ("11", 0)), (house, "usage", ("ann", 0)), (house, "unheld", (0,)),
                (house, "bill", ("ann", 0)), (house, "invoiced", ("ann", 0)), (house, "pay", ("ann", 1)),
                (house, "balance", ("ann",)), (purse, "put", (1,)), (purse, "begin", ("c", "11", 0, 1)),
                (purse, "more", ("c", 1)), (purse, "end", ("c", 1))):
            for at in range(len(good)):
                for each in objects():
                    self.assertEqual(position(getattr(thing, name), good[:at] + (each,) + good[at + 1:]), at, name)
        self.assertEqual((house, purse), before)

    def test_objects_passed_where_any_value_may_stand(self):
        for each in objects():
            self.assertIs(is_plan(each), False)
            self.assertIs(is_week(each), False)
            self.assertIs(is_tariff(each), False)
            self.assertIs(settles(ACCOUNTS, each), False)
            self.assertIs(paper_holds(GROUPS, BUNDLES, 100, each), False)
            with self.assertRaises(BadText) as caught:
                parse(each)
            self.assertEqual(caught.exception.at, 0)
            with self.assertRaises(BadRow) as caught:
                rebuilt(each)
            self.assertEqual(caught.exception.at, 0)
            with self.assertRaises(BadRow) as caught:
                rebuilt(simple().log() + (each,))
            self.assertEqual(caught.exception.at, 4)


class PassedOnTest(unittest.TestCase):
    """What one part of the package returns is taken by another one."""

    def test_answers_of_a_house(self):
        house = simple(piece("c", 0, 30), piece("d", 10, 5, dialled="4000"))
        self.assertTrue(is_plan(house.plan()))
        self.assertEqual(ring(house.plan(), "4000", 5), house.ring("4000", 5))
        groups, setups = house.usage("ann", 0)
        self.assertEqual(least_bill(groups, ()) + setups, house.bill("ann", 0)[0])
        self.assertTrue(settles(house.owed(), payments(house.owed())))
        self.assertEqual([parse(printed(fact)) for fact in house.facts()], list(house.facts()))
        other = House(*SIMPLE)
        for fact in house.facts():
            other.tell(fact)
        self.assertEqual(other.facts(), house.facts())
        self.assertEqual(rebuilt(rebuilt(house.log()).log()), house)

    def test_costs_and_bills(self):
        """A piece 0 that one customer has alone costs what a call costs."""
        for begin, length in ((0, 30), (86390, 20), (10 ** 8, 7), (5, 10 ** 6)):
            house = House(SIMPLE[0], SIMPLE[1], (), 10 ** 7, 0)
            for fact in ANN + (piece("c", begin, length),):
                house.tell(fact)
            total = sum(house.bill("ann", cycle)[0] for cycle in (0, 10))
            self.assertEqual(total, cost(TARIFF, SIMPLE[0], "5000", begin, length))

    def test_errors_keep_what_was_passed(self):
        passed = ["uses", ["ann", 0], 0, "odd"]
        house = simple()
        with self.assertRaises(Exception) as caught:
            house.tell(passed)
        self.assertIs(caught.exception.fact, passed)
        self.assertEqual(passed, ["uses", ["ann", 0], 0, "odd"])
        self.assertNotIsInstance(caught.exception, BadValue)

    def test_equal_states_answer_alike(self):
        one, other = simple(piece("c", 0, 30)), simple(piece("c", 0, 30))
        for name in ("facts", "plan", "customers", "owed", "close", "invoices", "log"):
            self.assertEqual(getattr(one, name)(), getattr(other, name)())
        self.assertEqual(copy.deepcopy(one.log()), other.log())


if __name__ == "__main__":
    unittest.main()
