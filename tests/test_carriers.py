import copy
import itertools
import random
import unittest

import reference
from calls import CallChecks, position
from eachsecond.carriers import payments, settles
from samples import STRANGE, as_lists, mixed, places, plain, put

BIG = 10 ** 30
ACCOUNTS = (("east", -7), ("north", 10), ("south", -3))
PAID = (("east", "north", 7), ("south", "north", 3))


def reading(accounts):
    """Whether these are accounts, as the document says it."""
    if not (reference.rows(accounts, 0, 8) and all(reference.rows(row, 2, 2) for row in accounts)):
        return False
    if not all(reference.word(row[0]) and type(row[1]) is int for row in accounts):
        return False
    return reference.strictly_ascending([row[0] for row in accounts]) and sum(row[1] for row in accounts) == 0


def settled(accounts, value):
    """Whether these are payments that settle the accounts, as the document says it."""
    if type(value) not in (list, tuple) or not all(reference.rows(row, 3, 3) for row in value):
        return False
    carriers = [row[0] for row in accounts]
    for payer, payee, money in value:
        if not (reference.word(payer) and reference.word(payee) and type(money) is int):
            return False
        if payer == payee or money <= 0 or payer not in carriers or payee not in carriers:
            return False
    rows = [tuple(row) for row in value]
    if rows != sorted(rows) or len({row[:2] for row in rows}) != len(rows):
        return False
    return all(money + sum(row[2] for row in rows if row[0] == carrier)
               - sum(row[2] for row in rows if row[1] == carrier) == 0 for carrier, money in accounts)


def partitions(rows):
    """All groupings of the rows."""
    if not rows:
        yield []
        return
    for rest in partitions(rows[1:]):
        yield [[rows[0]]] + rest
        for at in range(len(rest)):
            yield rest[:at] + [[rows[0]] + rest[at]] + rest[at + 1:]


def fewest(moneys):
    """By all groupings: in each group that adds up to nothing one payment fewer is needed than it has members."""
    moneys = [money for money in moneys if money]
    return min(len(moneys) - len(groups) for groups in partitions(moneys)
               if all(sum(group) == 0 for group in groups))


class CarrierCallTest(CallChecks, unittest.TestCase):
    CALLS = (
        (payments, "accounts", (ACCOUNTS,)),
        (lambda accounts: settles(accounts, PAID), "accounts", (ACCOUNTS,)),
    )

    def takes(self, function, at, strange):
        return strange in ((), [])

    def test_what_accounts_are(self):
        eight = tuple((name, 0) for name in "abcdefgh")
        for good in ((), (("a", 0),), (("a", BIG), ("b", -BIG)), eight):
            self.assertTrue(reading(good))
            self.assertIsNone(position(payments, (good,)))
        for bad in ((("a", 1),), (("a", 1), ("b", -2)), (("b", 0), ("a", 0)), (("a", 1), ("a", -1)),
                    (("a", True), ("b", -1)), (("a", 0, 0),), (("a",),), (("A", 0),), eight + (("i", 0),), "a", None,
                    (("a", "0"),), (("a", None),), (("abcdefghi", 0),)):
            self.assertFalse(reading(bad))
            for form in (lambda same: same, as_lists, mixed):
                self.assertEqual(position(payments, (form(bad),)), 0, bad)
                self.assertEqual(position(settles, (form(bad), ())), 0, bad)

    def test_strange_values_at_every_place(self):
        for at in places(ACCOUNTS):
            for strange in STRANGE:
                changed = put(ACCOUNTS, at, strange)
                told = None if reading(changed) else 0
                self.assertEqual(position(payments, (changed,)), told)
                self.assertEqual(position(settles, (changed, None)), told)

    def test_settles_by_name(self):
        self.assertIs(settles(value=PAID, accounts=ACCOUNTS), True)
        self.assertIs(settles(accounts=ACCOUNTS, value=PAID[:1]), False)


class SettlesTest(unittest.TestCase):

    def check(self, accounts, value, expected):
        self.assertIs(settled(accounts, value), expected)
        for form in (lambda same: same, as_lists, mixed):
            self.assertIs(settles(form(accounts), form(value)), expected, (accounts, value))

    def test_ordinary(self):
        self.check(ACCOUNTS, PAID, True)
        self.check(ACCOUNTS, (("east", "north", 10), ("south", "east", 3)), True)
        self.check(ACCOUNTS, (("east", "south", 7), ("south", "north", 10)), True)
        self.check((), (), True)
        self.check((("a", 0),), (), True)
        self.check((("a", 0), ("b", 0)), (("a", "b", 5), ("b", "a", 5)), True)

    def test_who_is_owed_gets(self):
        self.check((("a", 5), ("b", -5)), (("a", "b", 5),), False)
        self.check((("a", 5), ("b", -5)), (("b", "a", 5),), True)
        self.check((("a", 5), ("b", -5)), (("b", "a", 4),), False)
        self.check((("a", 5), ("b", -5)), (("b", "a", 6),), False)
        self.check((("a", 5), ("b", -5)), (), False)

    def test_what_is_no_payments(self):
        for value in (
                PAID[::-1], PAID + PAID[1:], (("east", "north", 3), ("east", "north", 4), PAID[1]),
                (("east", "east", 1),) + PAID, PAID + (("west", "west", 1),), PAID + (("south", "west", 1),),
                (("east", "north", 7, 0), PAID[1]), (PAID[0][:2], PAID[1]), (("east", "north", True), PAID[1]),
                (("east", "north", "7"), PAID[1]), (("east", "north", 0),) + PAID[1:], PAID[0], "east", None, 7, True,
                (None,), (("east", "north", 8), ("north", "east", 1), PAID[1], ("south", "south", 1)),
                (("a", "north", 7), PAID[1]), (("east", "north", -7), PAID[1])):
            self.check(ACCOUNTS, value, False)
        self.check(ACCOUNTS, (("east", "north", 8), ("north", "east", 1), PAID[1]), True)
        self.check(ACCOUNTS, (("east", "north", 7), ("north", "east", 0), PAID[1]), False)
        self.check(ACCOUNTS, (("east", "north", 6), ("north", "east", -1), PAID[1]), False)

    def test_strange_values(self):
        for strange in STRANGE:
            self.check(ACCOUNTS, strange, False)
            self.check((), strange, strange in ((), []))
            for at in places(PAID):
                self.check(ACCOUNTS, put(PAID, at, strange), False)

    def test_all_small_payments(self):
        """All payments of nought to two between three carriers."""
        accounts = (("a", 1), ("b", 0), ("c", -1))
        pairs = [(one, other) for one in "abc" for other in "abc" if one != other]
        counted = 0
        for moneys in itertools.product(range(3), repeat=6):
            value = tuple(pair + (money,) for pair, money in zip(pairs, moneys) if money)
            self.assertIs(settles(accounts, value), settled(accounts, value))
            counted += settles(accounts, value)
        self.assertGreater(counted, 10)


class PaymentsTest(unittest.TestCase):

    def check(self, accounts):
        for form in (lambda same: same, as_lists, mixed):
            passed = form(accounts)
            before = copy.deepcopy(passed)
            told = payments(passed)
            self.assertEqual(repr(passed), repr(before))
            self.assertTrue(plain(told))
            self.assertTrue(settled(accounts, told), (accounts, told))
            self.assertIs(settles(accounts, told), True)
            self.assertEqual(payments(accounts), told)
        return len(told)

    def test_ordinary(self):
        self.assertEqual(payments((("a", 5), ("b", -5))), (("b", "a", 5),))
        self.assertEqual(self.check(ACCOUNTS), 2)

    def test_nothing_to_pay(self):
        for accounts in ((), (("a", 0),), tuple((name, 0) for name in "abcdefgh")):
            self.assertEqual(payments(accounts), ())

    def test_pairs_and_threes(self):
        self.assertEqual(self.check((("a", 5), ("b", 3), ("c", -5), ("d", -3))), 2)
        self.assertEqual(self.check((("a", 5), ("b", 3), ("c", -4), ("d", -4))), 3)
        self.assertEqual(self.check((("a", 6), ("b", -1), ("c", -5), ("d", -2), ("e", 2))), 3)
        # A pair that fits must be left alone where two threes do better.
        self.assertEqual(self.check((("a", 3), ("b", 4), ("c", -7), ("d", 7), ("e", -2), ("f", -5))), 4)
        self.assertEqual(self.check((("a", 1), ("b", 2), ("c", -3), ("d", 4), ("e", 5), ("f", -9), ("g", 8),
                                     ("h", -8))), 5)
        self.assertEqual(self.check(tuple(zip("abcdefgh", (1, -1, 2, -2, 3, -3, 4, -4)))), 4)

    def test_a_greedy_way_is_not_enough(self):
        # The greatest ones first would leave the pairs, and the threes, torn.
        self.assertEqual(self.check((("a", 10), ("b", -7), ("c", -3), ("d", 9), ("e", -9))), 3)
        self.assertEqual(self.check((("a", -6), ("b", -4), ("c", 5), ("d", 5), ("e", -5), ("f", 5))), 4)

    def test_against_all_groupings(self):
        for size, most in ((2, 6), (3, 6), (4, 4), (5, 2)):
            for moneys in itertools.product(range(-most, most + 1), repeat=size):
                if sum(moneys) == 0:
                    self.assertEqual(len(payments(tuple(zip("abcdefgh", moneys)))), fewest(moneys), moneys)

    def test_random(self):
        chance = random.Random(20261120)
        for _ in range(300):
            size = chance.randint(5, 8)
            most = chance.choice((3, 6, 12, 10 ** 12))
            moneys = [chance.randint(-most, most) for _ in range(size - 1)]
            moneys.append(-sum(moneys))
            accounts = tuple(zip(sorted(chance.sample("abcdefghijklm", size)), moneys))
            self.assertEqual(self.check(accounts), fewest(moneys), accounts)

    def test_the_greatest_money(self):
        self.assertEqual(payments((("a", BIG), ("b", -BIG))), (("b", "a", BIG),))
        self.assertEqual(self.check((("a", BIG), ("b", -BIG + 1), ("c", -1))), 2)


if __name__ == "__main__":
    unittest.main()
