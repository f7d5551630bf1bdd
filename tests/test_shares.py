import itertools
import random
import unittest
from fractions import Fraction

import reference
from calls import CallChecks, position
from eachsecond.shares import shares, shares_of, tax, tax_of
from samples import plain

MOST = 10 ** 15


class ShareCallTest(CallChecks, unittest.TestCase):
    CALLS = (
        (shares, "whole weights", (100, (3, 0, 1, 5))),
        (tax, "amount rate", (1234, 77)),
    )

    def takes(self, function, at, strange):
        if at == 0:
            return strange == 10 ** 8 + 1
        return function is shares and strange == (1,)

    def test_wholes_and_amounts(self):
        for function, rest in ((shares, ((1,),)), (tax, (5,))):
            for good in (0, 1, MOST - 1, MOST):
                self.assertIsNone(position(function, (good,) + rest))
            for bad in (-1, MOST + 1, True, False, None, "1", "", (1,), [1], 10 ** 30):
                self.assertEqual(position(function, (bad,) + rest), 0)

    def test_weights(self):
        for good in ((1,), [1], (0, 1), (MOST,), (0,) * 39 + (1,), (MOST,) * 40):
            self.assertIsNone(position(shares, (5, good)))
        for bad in ((), [], (0,), (0, 0), (0,) * 40, (1,) * 41, (0,) * 40 + (1,), (-1,), (2, -1), (MOST + 1,),
                    (True,), (1, False), (1, None), (1, "1"), (1, (1,)), "11", 1, None, 10 ** 30):
            self.assertEqual(position(shares, (5, bad)), 1)

    def test_rates(self):
        for good in (0, 1, 999, 1000):
            self.assertIsNone(position(tax, (5, good)))
        for bad in (-1, 1001, True, None, "1", (1,), 10 ** 30):
            self.assertEqual(position(tax, (5, bad)), 1)

    def test_the_first_argument_is_refused_first(self):
        self.assertEqual(position(shares, (-1, ())), 0)
        self.assertEqual(position(tax, (-1, -1)), 0)


class SharesTest(unittest.TestCase):

    def test_ordinary(self):
        self.assertEqual(shares(100, (1, 1, 2)), (25, 25, 50))
        self.assertEqual(shares(10, (5, 3, 2)), (5, 3, 2))
        self.assertEqual(shares(7, [5, 3, 2]), (4, 2, 1))
        self.assertTrue(plain(shares(7, [5, 3, 2])))

    def test_of_equal_rests_the_first(self):
        self.assertEqual(shares(10, (1, 1, 1)), (4, 3, 3))
        self.assertEqual(shares(11, (1, 1, 1)), (4, 4, 3))
        self.assertEqual(shares(1, (1,) * 40), (1,) + (0,) * 39)
        self.assertEqual(shares(3, (7, 0, 7, 7, 7)), (1, 0, 1, 1, 0))

    def test_the_greatest_rests(self):
        self.assertEqual(shares(10, (1, 2, 4)), (1, 3, 6))
        self.assertEqual(shares(1, (1, 2)), (0, 1))
        self.assertEqual(shares(1, (2, 1)), (1, 0))
        self.assertEqual(shares(5, (3, 4, 3)), (2, 2, 1))
        self.assertEqual(shares(6, (3, 4, 3)), (2, 2, 2))

    def test_weights_of_nothing(self):
        self.assertEqual(shares(7, (0, 3, 0)), (0, 7, 0))
        self.assertEqual(shares(7, (0, 1, 1)), (0, 4, 3))
        self.assertEqual(shares(0, (0, 3, 5)), (0, 0, 0))

    def test_the_greatest_numbers(self):
        self.assertEqual(shares(MOST, (MOST,) * 40), (MOST // 40,) * 40)
        self.assertEqual(shares(MOST, (MOST, MOST - 1)), (MOST // 2, MOST // 2))
        self.assertEqual(shares(MOST, (1, MOST)), (1, MOST - 1))
        self.assertEqual(shares(MOST, (MOST, 1, 0)), (MOST - 1, 1, 0))
        self.assertEqual(shares(MOST, (1, 1, 1)), (MOST // 3 + 1, MOST // 3, MOST // 3))

    def test_the_rests_one_by_one(self):
        for whole, weights in itertools.product(range(13), itertools.product(range(5), repeat=3)):
            if sum(weights):
                self.assertEqual(shares(whole, weights), reference.shares(whole, weights), (whole, weights))

    def test_random(self):
        chance = random.Random(20261119)
        for _ in range(1000):
            most = chance.choice((3, 50, 10 ** 9, MOST))
            whole = chance.randint(0, chance.choice((5, 100, MOST)))
            weights = [chance.choice((0, 1, chance.randint(0, most))) for _ in range(chance.randint(1, 40))] + [1]
            weights = weights[-40:]
            told = shares(whole, weights)
            self.assertEqual(told, reference.shares(whole, weights))
            self.assertEqual(sum(told), whole)
            for part, weight in zip(told, weights):
                self.assertLess(abs(part - Fraction(whole * weight, sum(weights))), 1)

    def test_any_size_inside(self):
        self.assertEqual(shares_of(10 ** 40 + 2, (10 ** 30,) * 100)[:3], (10 ** 38 + 1, 10 ** 38 + 1, 10 ** 38))
        self.assertEqual(tax_of(10 ** 40, 1000), 10 ** 40)


class TaxTest(unittest.TestCase):

    def test_ordinary(self):
        self.assertEqual(tax(1000, 190), 190)
        self.assertEqual(tax(12345, 200), 2469)
        self.assertEqual(tax(0, 1000), 0)
        self.assertEqual(tax(77, 0), 0)
        self.assertEqual(tax(77, 1000), 77)

    def test_halves_upward(self):
        self.assertEqual([tax(amount, 1) for amount in (499, 500, 501, 1499, 1500, 1501)], [0, 1, 1, 1, 2, 2])
        self.assertEqual([tax(amount, 500) for amount in (1, 2, 3, 4, 5)], [1, 1, 2, 2, 3])
        self.assertEqual([tax(amount, 250) for amount in (1, 2, 3, 6)], [0, 1, 1, 2])

    def test_the_greatest_amounts(self):
        self.assertEqual(tax(MOST, 1000), MOST)
        self.assertEqual(tax(MOST, 1), MOST // 1000)
        self.assertEqual(tax(MOST - 500, 1), MOST // 1000)
        self.assertEqual(tax(MOST - 501, 1), MOST // 1000 - 1)

    def test_all_small_amounts_and_rates(self):
        for amount, rate in itertools.product(range(40), range(1001)):
            self.assertEqual(tax(amount, rate), reference.tax(amount, rate))


if __name__ == "__main__":
    unittest.main()
