import copy
import random
import unittest

import reference
import slow_house
from eachsecond.errors import BadRow, Clash, NotNow
from eachsecond.houses import House, rebuilt
from eachsecond.purses import Purse
from house_samples import (
    ANN, ARGUMENTS, BLOCKS, SIMPLE, TARIFF, WEEK, built, drawn_facts, drawn_house, piece, refused, simple, state,
)
from samples import STRANGE, as_lists, mixed, places, plain, put

FIRST = ("house",) + ARGUMENTS
# Rows of all kinds, one fact told twice, each piece of them a different number of things.
ROWS = (
    ("house", (SIMPLE[0][0], (1, 4)), SIMPLE[1], (("north", "south", 3),), 1000, 190),
    ("tell", ANN[0]), ("tell", ANN[1]), ("tell", ANN[2]), ("tell", piece("c", 0, 30)), ("pay", "ann", 7),
    ("close",), ("tell", ("piece", ("c", 0), 1, None)), ("tell", ANN[0]), ("close",),
    ("tell", ("bundle", ("ann", 0, "x"), 0, (5, ("far",), ("low",)))), ("tell", ("forward", ("11", 0), 0, (None,))),
    ("pay", "zed", 10 ** 12),
)


def bad_row(rows):
    """The number that BadRow tells; None if the rows are those of a house."""
    try:
        rebuilt(rows)
    except BadRow as error:
        assert type(error.at) is int
        return error.at
    return None


def is_first(row):
    if not reference.rows(row, 6, 6) or row[0] != "house":
        return False
    _, week, blocks, rates, cycle, rate = row
    if not (reference.week(week) and reference.plan((blocks, (), ()))):
        return False
    if not (reference.rows(rates, 0, 20) and all(reference.rows(each, 3, 3) for each in rates)):
        return False
    for payer, payee, price in rates:
        if not (reference.word(payer) and reference.word(payee) and reference.integer(price, 0, 10 ** 6)):
            return False
    return (reference.strictly_ascending([tuple(each[:2]) for each in rates])
            and reference.integer(cycle, 1000, 10 ** 7) and reference.integer(rate, 0, 1000))


def first_bad(rows):
    """The same as bad_row, as the document says it."""
    if type(rows) not in (list, tuple) or len(rows) == 0 or not is_first(rows[0]):
        return 0
    told, closed = {}, 0
    for at, row in enumerate(rows[1:], 1):
        if reference.rows(row, 2, 2) and row[0] == "tell" and slow_house.is_fact(row[1]):
            fact = repr(as_lists(row[1][:3])), repr(as_lists(row[1][3]))
            if told.setdefault(*fact) != fact[1] or len(told) > 400:
                return at
        elif reference.rows(row, 1, 1) and row[0] == "close" and closed < 200:
            closed += 1
        elif not (reference.rows(row, 3, 3) and row[0] == "pay" and reference.word(row[1])
                  and reference.integer(row[2], 1, 10 ** 12)):
            return at
    return None


class LogTest(unittest.TestCase):

    def test_a_row_for_each_call_that_did_not_raise(self):
        house = House(*ARGUMENTS)
        self.assertEqual(house.log(), (FIRST,))
        house.tell(ANN[0])
        house.tell(as_lists(ANN[0]))
        self.assertEqual(refused(house, ANN[0][:3] + (None,)), Clash)
        house.close()
        house.pay("ann", 5)
        self.assertEqual(house.log(), (FIRST, ("tell", ANN[0]), ("tell", ANN[0]), ("close",), ("pay", "ann", 5)))
        self.assertTrue(plain(house.log()))
        for _ in range(199):
            house.close()
        with self.assertRaises(NotNow):
            house.close()
        self.assertEqual(house.log()[3:].count(("close",)), 200)
        self.assertEqual(len(house.log()), 204)

    def test_questions_leave_no_row(self):
        house = simple(piece("c", 0, 30))
        before = house.log()
        state(house)
        house.copy().close()
        self.assertEqual(house.log(), before)


class RebuiltTest(unittest.TestCase):

    def check(self, rows):
        expected = first_bad(rows)
        for form in (lambda same: same, as_lists, mixed):
            passed = form(rows)
            before = copy.deepcopy(passed)
            self.assertEqual(bad_row(passed), expected, repr(rows)[:300])
            self.assertEqual(repr(passed), repr(before))
        if expected is None:
            self.assertEqual(rebuilt(rows).log(), tuple(rows))
        return expected

    def test_by_name(self):
        self.assertEqual(rebuilt(rows=ROWS), rebuilt(ROWS))

    def test_each_beginning(self):
        house = House(*ROWS[0][1:])
        self.assertEqual(state(rebuilt(ROWS[:1])), state(house))
        for at, row in enumerate(ROWS[1:], 1):
            getattr(house, row[0])(*row[1:])
            again = rebuilt(ROWS[:at + 1])
            self.assertEqual(again, house)
            self.assertEqual(state(again), state(house))
        self.assertEqual(house.log(), ROWS)
        self.check(ROWS)

    def test_each_beginning_of_drawn_houses(self):
        chance = random.Random(20261120)
        for _ in range(25):
            house = drawn_house(chance, 12)
            rows = house.log()
            states = []
            follower = None
            for row in rows:
                if follower is None:
                    follower = House(*row[1:])
                else:
                    getattr(follower, row[0])(*row[1:])
                states.append(state(follower))
            self.assertEqual(states[-1], state(house))
            for at in range(1, len(rows) + 1):
                self.assertEqual(state(rebuilt(rows[:at])), states[at - 1])
            self.assertEqual(rebuilt(rows), house)
            self.assertIsInstance(rebuilt(rows), House)

    def test_a_rebuilt_house_goes_on_alike(self):
        chance = random.Random(20261121)
        for _ in range(40):
            house = drawn_house(chance, 12)
            again = rebuilt(house.log())
            for fact in drawn_facts(chance, 8):
                self.assertEqual(refused(again, fact), refused(house, fact))
            self.assertEqual(again.close(), house.close())
            self.assertEqual(state(again), state(house))

    def test_no_sequence_and_an_empty_one(self):
        for strange in STRANGE:
            self.assertEqual(self.check(strange), 0)
        for strange in ("house", House(*SIMPLE), Purse(SIMPLE[0], TARIFF, 5), FIRST, None):
            self.assertEqual(bad_row(strange), 0)

    def test_each_row_left_out(self):
        told = [self.check(ROWS[:at] + ROWS[at + 1:]) for at in range(len(ROWS))]
        self.assertEqual(told, [0] + [None] * (len(ROWS) - 1))

    def test_each_row_exchanged(self):
        for at in range(len(ROWS)):
            for other in range(len(ROWS)):
                rows = list(ROWS)
                rows[at], rows[other] = rows[other], rows[at]
                told = self.check(tuple(rows))
                self.assertEqual(told, 0 if at != other and 0 in (at, other) else None)
                told = self.check(ROWS[:at] + ROWS[other:other + 1] + ROWS[at:])
                self.assertEqual(told, at if other == 0 and at else 0 if at == 0 and other else 1 if at == other == 0
                                 else None)

    def test_each_row_spoilt(self):
        spoilt = ((), (None,), ("tell",), ("close", None), ("pay", "ann"), ("pay", "ann", 0), ("pay", "ann", 10 ** 12 + 1),
                  ("pay", "Ann", 5), ("pay", "ann", 5, 5), ("tell", ANN[0], ANN[1]), ("tell", ANN[0][:3]), "close", None,
                  ("closes",), ("house",), ("House",) + ARGUMENTS, ("copy",), ("balance", "ann"), ("bill", "ann", 0),
                  ("log",), (("close",),), ("pay", "ann", True))
        for at in range(len(ROWS)):
            for row in spoilt:
                self.assertEqual(self.check(ROWS[:at] + (row,) + ROWS[at + 1:]), at, row)
        clashing = ("tell", ("hold", ("4000", 0), 0, ("cy", None)))
        for at in range(len(ROWS)):
            # At the place of row 1 it is row 8 that clashes.
            self.assertEqual(self.check(ROWS[:at] + (clashing,) + ROWS[at + 1:]), 8 if at == 1 else at)

    def test_strange_values_at_every_place(self):
        for at in places(ROWS):
            # A few of the strange values everywhere, and all of them where rows and their members stand.
            for strange in STRANGE if len(at) < 3 else STRANGE[::5]:
                rows = put(ROWS, at, strange)
                self.assertEqual(bad_row(rows), first_bad(rows), (at, repr(strange)[:40]))

    def test_clashes_and_too_many(self):
        clashing = ("tell", ("hold", ("4000", 0), 0, ("bob", None)))
        self.assertEqual(self.check(ROWS + (clashing,)), len(ROWS))
        self.assertEqual(self.check(ROWS[:1] + (clashing,) + ROWS[1:]), 2)
        facts = tuple(("tell", ("hold", ("4000", second), 0, ("ann", None))) for second in range(400))
        self.assertEqual(self.check(ROWS[:1] + facts + facts[:5] + (clashing,)), 406)
        more = ("tell", ("hold", ("4000", 400), 0, None))
        self.assertEqual(self.check(ROWS[:1] + facts + (more,)), 401)
        self.assertIsNone(self.check(ROWS[:1] + facts + facts))
        self.assertEqual(self.check(ROWS[:1] + (("close",),) * 203), 201)
        self.assertIsNone(self.check(ROWS[:1] + (("close",),) * 200))

    def test_the_first_row_that_cannot_follow(self):
        self.assertEqual(self.check(ROWS[:3] + (None, ("close", 1)) + ROWS[3:]), 3)
        self.assertEqual(self.check((FIRST, FIRST)), 1)
        self.assertEqual(self.check((FIRST[:5], None)), 0)
        self.assertEqual(self.check((FIRST + (None,), None)), 0)
        self.assertEqual(self.check((FIRST + FIRST[-1:],)), 0)
        self.assertEqual(self.check((("tell", ANN[0]), FIRST)), 0)
        self.assertEqual(self.check((FIRST[:1] + SIMPLE[:4] + (1001,),)), 0)


class EqualityTest(unittest.TestCase):

    def test_houses_are_equal_if_their_logs_are(self):
        one = simple(piece("c", 0, 30))
        self.assertTrue(one == simple(piece("c", 0, 30)))
        self.assertFalse(one != simple(piece("c", 0, 30)))
        self.assertTrue(House(*ARGUMENTS) == House(*[as_lists(each) for each in ARGUMENTS]))

    def test_other_arguments(self):
        for at, other in ((0, (WEEK[0], (2,))), (1, BLOCKS[:1]), (2, ()), (3, 1001), (4, 191)):
            changed = House(*(ARGUMENTS[:at] + (other,) + ARGUMENTS[at + 1:]))
            self.assertFalse(House(*ARGUMENTS) == changed)
            self.assertTrue(House(*ARGUMENTS) != changed)

    def test_other_rows(self):
        made = [simple(), simple(piece("c", 0, 30)), simple(piece("c", 0, 31)), simple(piece("c", 0, 30), ANN[0]),
                built(ANN[::-1], SIMPLE), simple(), simple(), simple(), simple(), simple()]
        made[5].close()
        made[6].pay("ann", 1)
        made[7].pay("ann", 2)
        made[8].pay("bob", 1)
        made[9].close()
        made[9].close()
        for at, one in enumerate(made):
            for where, other in enumerate(made):
                self.assertIs(one == other, at == where)
                self.assertIs(one != other, at != where)

    def test_a_house_equals_nothing_else(self):
        house = House(*SIMPLE)
        for other in (None, (), house.log(), "house", 0, Purse(SIMPLE[0], TARIFF, 5), object()):
            self.assertFalse(house == other)
            self.assertFalse(other == house)
            self.assertTrue(house != other)


class CopyTest(unittest.TestCase):

    def test_a_copy_is_the_same(self):
        chance = random.Random(20261122)
        for _ in range(40):
            house = drawn_house(chance, 20)
            other = house.copy()
            self.assertIsInstance(other, House)
            self.assertIsNot(other, house)
            self.assertEqual(other, house)
            self.assertEqual(state(other), state(house))
            self.assertEqual(state(other.copy()), state(house))

    def change(self, chance, house):
        for fact in drawn_facts(chance, 8):
            refused(house, fact)
        house.pay("ann", 5)
        house.close()

    def test_changes_of_either_leave_the_other(self):
        chance = random.Random(20261123)
        for _ in range(40):
            house = drawn_house(chance, 15)
            other = house.copy()
            before = state(house)
            seed = chance.random()
            self.change(random.Random(seed), house)
            self.assertEqual(state(other), before)
            self.assertNotEqual(house, other)
            changed = state(house)
            self.change(chance, other)
            self.assertEqual(state(house), changed)
            again = rebuilt(before[0])
            self.change(random.Random(seed), again)
            self.assertEqual(state(again), changed)

    def test_a_copy_goes_on_alike(self):
        chance = random.Random(20261124)
        for _ in range(40):
            house = drawn_house(chance, 15)
            other = house.copy()
            seed = chance.random()
            self.change(random.Random(seed), house)
            self.change(random.Random(seed), other)
            self.assertEqual(house, other)
            self.assertEqual(state(house), state(other))

    def test_a_copy_between_a_late_fact_and_the_closing(self):
        house = simple(piece("c", 0, 30))
        house.close()
        house.bill("ann", 0)
        house.tell(piece("c", 0, 20, version=1))
        other = house.copy()
        other.close()
        self.assertEqual(len(house.invoices()), 1)
        house.close()
        self.assertEqual(other.invoices(), house.invoices())
        self.assertEqual(house.invoices()[1][3], ((0, -44),))


if __name__ == "__main__":
    unittest.main()
