import copy
import random
import unittest

import reference
from calls import MethodChecks, position
from eachsecond.errors import NoCall, NotNow, SecondError, TakenCall
from eachsecond.houses import House
from eachsecond.purses import Purse
from eachsecond.tariffs import cost
from house_samples import FREE, ODD, PLAIN, SIMPLE, TARIFF, WEEK
from samples import STRANGE, as_lists, mixed, one_band, places, plain
from slow_purse import SlowPurse

LAST = 10 ** 8
MILLION = 10 ** 6
CALM = one_band((1,))
SEED = 20261120


def state(purse):
    return (purse.money(), purse.held(), purse.running(), purse.ended())


def purse_with(money, tariff=TARIFF, week=CALM):
    return Purse(week, tariff, money)


def told(purse, name, *arguments):
    """What a method returns, or the name of the error that it raises."""
    try:
        return getattr(purse, name)(*arguments)
    except SecondError as error:
        return type(error).__name__


class PurseMethodTest(MethodChecks, unittest.TestCase):
    METHODS = (
        ("put", "amount", (5,)),
        ("begin", "call number second cap", ("new", "5000", 0, 10)),
        ("more", "call cap", ("run", 10)),
        ("end", "call length", ("run", 3)),
    )

    def made(self):
        purse = purse_with(1000)
        purse.begin("run", "5000", 0, 5)
        purse.begin("gone", "5000", 0, 5)
        purse.end("gone", 1)
        return purse

    def state(self, thing):
        return state(thing)

    def takes(self, name, at, strange):
        return (name, at) == ("put", 0) and strange == LAST + 1

    def test_bounds(self):
        integers = (True, False, None, "1", (1,), 10 ** 30)
        self.check_bounds("put", 0, (1, 10 ** 12), (0, -1, 10 ** 12 + 1) + integers)
        self.check_bounds("begin", 0, ("a", "abcdefgh"), ("", "A", "abcdefghi", "a1", None, 5))
        self.check_bounds("begin", 1, ("11", "500", "12345678"), ("1", "123456789", "5a", None, 50))
        self.check_bounds("begin", 2, (0, LAST), (-1, LAST + 1) + integers)
        self.check_bounds("begin", 3, (1, MILLION), (0, -1, MILLION + 1) + integers)
        self.check_bounds("more", 1, (1, MILLION), (0, -1, MILLION + 1) + integers)
        self.check_bounds("end", 1, (0, 5), (-1, MILLION + 1) + integers)
        for name in ("more", "end"):
            self.check_bounds(name, 0, ("run",), ("", "Run", "abcdefghi", None, 5, ("run",)))

    def test_results(self):
        purse = self.made()
        self.assertIsNone(purse.put(5))
        self.assertEqual(purse.begin("new", "5000", 0, 10), 10)
        self.assertEqual(purse.more("run", 10), 10)
        self.assertEqual(purse.end("run", 3), 62)
        for name in ("money", "held", "running", "ended", "copy"):
            with self.assertRaises(TypeError):
                getattr(purse, name)(1)

    def test_bad_values_go_ahead_of_all_other_errors(self):
        purse = self.made()
        before = state(purse)
        for name, arguments, at in (
                ("begin", ("run", "5", 0, 10), 1), ("begin", ("gone", "5000", -1, 10), 2), ("begin", ("run", "5000", 0, 0), 3),
                ("more", ("none", 0), 1), ("more", ("gone", MILLION + 1), 1), ("end", ("none", -1), 1),
                ("end", ("gone", MILLION + 1), 1), ("end", ("run", MILLION + 1), 1), ("begin", ("Run", "5", -1, 0), 0)):
            self.assertEqual(position(getattr(purse, name), arguments), at)
        self.assertEqual(position(purse_with(0).begin, ("run", "5000", 0, 0)), 3)
        self.assertEqual(state(purse), before)


class PurseTest(unittest.TestCase):

    def test_arguments(self):
        self.assertEqual(Purse(money=5, tariff=PLAIN, week=WEEK), Purse(WEEK, PLAIN, 5))
        for good in (0, 1, 10 ** 12):
            self.assertEqual(state(Purse(WEEK, PLAIN, good)), (good, 0, (), ()))
        for bad in (-1, 10 ** 12 + 1, True, None, "5", (5,)):
            self.assertEqual(position(Purse, (WEEK, PLAIN, bad)), 2)
        for at in range(3):
            good = (WEEK, PLAIN, 5)
            for strange in STRANGE:
                bad = None if at == 2 and strange == LAST + 1 else at
                self.assertEqual(position(Purse, good[:at] + (strange,) + good[at + 1:]), bad)
            self.assertEqual(position(Purse, good[:at] + (None,) * (3 - at)), at)

    def test_put_again_and_again(self):
        purse = purse_with(10 ** 12)
        for _ in range(50):
            purse.put(10 ** 12)
        self.assertEqual(purse.money(), 51 * 10 ** 12)
        self.assertEqual(purse.begin("c", "5000", 0, MILLION), MILLION)
        self.assertEqual(purse.money(), 51 * 10 ** 12)

    def test_more_money_than_a_tariff_knows(self):
        dear = (MILLION, (("", "far"),), (("far", "low", MILLION),))
        purse = purse_with(10 ** 12, dear)
        purse.put(5)
        self.assertEqual(purse.begin("c", "5000", 2 * 86400, MILLION), MILLION - 1)
        self.assertEqual((purse.money(), purse.held()), (10 ** 12 + 5, 10 ** 12))
        purse.put(10 ** 12)
        self.assertEqual(purse.more("c", MILLION), 1)
        self.assertEqual(purse.held(), 10 ** 12 + MILLION)
        self.assertEqual(purse.end("c", MILLION), 10 ** 12 + MILLION)
        self.assertEqual(purse.money(), 10 ** 12 + 5 - MILLION)


class BeginTest(unittest.TestCase):
    """Far seconds cost 4, and the setup 50."""

    def test_ordinary(self):
        purse = purse_with(1000)
        self.assertEqual(purse.begin("c", "5000", 0, 10), 10)
        self.assertEqual(state(purse), (1000, 90, (("c", 10, 90),), ()))
        self.assertEqual(purse.begin("b", "4000", 0, 10), 10)
        self.assertEqual(state(purse), (1000, 160, (("b", 10, 70), ("c", 10, 90)), ()))

    def test_money_that_pays_exactly_one_less_and_one_more(self):
        for money, granted in ((0, "NoMoney"), (49, "NoMoney"), (50, "NoMoney"), (53, "NoMoney"), (54, 1), (55, 1),
                               (57, 1), (58, 2), (89, 9), (90, 10), (91, 10), (94, 10)):
            purse = purse_with(money)
            self.assertEqual(told(purse, "begin", "c", "5000", 0, 10), granted, money)
            held = 50 + 4 * granted if type(granted) is int else 0
            self.assertEqual((purse.money(), purse.held()), (money, held))
            self.assertEqual(purse.running(), (("c", granted, held),) if held else ())

    def test_what_is_held_pays_no_other_call(self):
        for money, granted in ((90 + 53, "NoMoney"), (90 + 54, 1), (90 + 90, 10)):
            purse = purse_with(money)
            self.assertEqual(purse.begin("c", "5000", 0, 10), 10)
            self.assertEqual(told(purse, "begin", "d", "5000", 0, 10), granted)

    def test_prices_and_setups_of_nothing(self):
        purse = purse_with(0, FREE)
        self.assertEqual(purse.begin("c", "5000", 0, MILLION), MILLION)
        self.assertEqual(state(purse), (0, 0, (("c", MILLION, 0),), ()))
        purse = purse_with(50)
        self.assertEqual(purse.begin("c", "4000", 86400, 10), 10)
        self.assertEqual(told(purse_with(49), "begin", "c", "4000", 86400, 10), "NoMoney")

    def test_over_the_ends_of_bands_and_days(self):
        # Near number 4000 costs 2 at low and nothing on the feast; far costs 9 there.
        purse = purse_with(50 + 3 * 4 + 2 * 9)
        self.assertEqual(purse.begin("c", "5000", 86400 - 3, 100), 5)
        self.assertEqual(purse.held(), 80)
        purse = purse_with(50 + 3 * 2)
        self.assertEqual(purse.begin("c", "4000", 86400 - 3, MILLION), 3 + 86400)

    def test_above_the_last_second(self):
        purse = purse_with(10 ** 7)
        self.assertEqual(purse.begin("c", "5000", LAST, MILLION), MILLION)
        self.assertEqual(purse.held(), 50 + 4 * MILLION)

    def test_calls_taken_twice(self):
        purse = purse_with(1000)
        call = "".join(("c", "all"))
        purse.begin("call", "5000", 0, 10)
        before = state(purse)
        with self.assertRaises(TakenCall) as caught:
            purse.begin(call, "4000", 5, 1)
        self.assertIs(caught.exception.call, call)
        self.assertEqual(state(purse), before)
        purse.end("call", 0)
        before = state(purse)
        with self.assertRaises(TakenCall) as caught:
            purse.begin(call, "4000", 5, 1)
        self.assertIs(caught.exception.call, call)
        self.assertEqual(state(purse), before)

    def test_a_taken_call_goes_ahead_of_no_money(self):
        purse = purse_with(54)
        purse.begin("c", "5000", 0, 1)
        self.assertEqual(told(purse, "begin", "c", "5000", 0, 1), "TakenCall")
        self.assertEqual(told(purse, "begin", "d", "5000", 0, 1), "NoMoney")

    def test_a_call_that_found_no_money_may_begin_later(self):
        purse = purse_with(53)
        self.assertEqual(told(purse, "begin", "c", "5000", 0, 1), "NoMoney")
        self.assertEqual(told(purse, "more", "c", 1), "NoCall")
        self.assertEqual(told(purse, "end", "c", 0), "NoCall")
        self.assertEqual(state(purse), (53, 0, (), ()))
        purse.put(1)
        self.assertEqual(purse.begin("c", "5000", 0, 1), 1)


class MoreTest(unittest.TestCase):

    def test_further_seconds(self):
        purse = purse_with(100)
        purse.begin("c", "5000", 0, 5)
        self.assertEqual(purse.more("c", 3), 3)
        self.assertEqual(state(purse), (100, 82, (("c", 8, 82),), ()))
        self.assertEqual(purse.more("c", 100), 4)
        self.assertEqual(purse.held(), 98)
        self.assertEqual(purse.more("c", 100), 0)
        self.assertEqual(state(purse), (100, 98, (("c", 12, 98),), ()))
        purse.put(2)
        self.assertEqual(purse.more("c", 100), 1)

    def test_behind_those_that_are_granted(self):
        purse = purse_with(1000)
        purse.begin("c", "5000", 86400 - 5, 4)
        self.assertEqual(purse.more("c", 3), 3)
        self.assertEqual(purse.held(), 50 + 5 * 4 + 2 * 9)

    def test_a_million_in_all(self):
        purse = purse_with(10 ** 12)
        purse.begin("c", "5000", 0, MILLION - 2)
        self.assertEqual(purse.more("c", 1), 1)
        self.assertEqual(purse.more("c", MILLION), 1)
        self.assertEqual(purse.more("c", MILLION), 0)
        self.assertEqual(purse.running()[0][1], MILLION)
        free = purse_with(0, FREE)
        free.begin("c", "5000", LAST, 7)
        self.assertEqual(free.more("c", MILLION), MILLION - 7)

    def test_calls_that_do_not_run(self):
        purse = purse_with(1000)
        purse.begin("c", "5000", 0, 5)
        purse.end("c", 5)
        before = state(purse)
        for call in ("c", "d"):
            for name in ("more", "end"):
                with self.assertRaises(NoCall) as caught:
                    getattr(purse, name)(call, 1)
                self.assertIs(caught.exception.call, call)
        self.assertEqual(state(purse), before)


class EndTest(unittest.TestCase):

    def test_at_no_second_at_all_and_at_all_that_was_granted(self):
        for length in (0, 1, 7, 8):
            purse = purse_with(100)
            purse.begin("c", "5000", 0, 5)
            purse.more("c", 3)
            self.assertEqual(purse.end("c", length), 50 + 4 * length)
            self.assertEqual(state(purse), (50 - 4 * length, 0, (), (("c", 50 + 4 * length),)))

    def test_more_than_was_granted(self):
        purse = purse_with(100)
        purse.begin("c", "5000", 0, 5)
        before = state(purse)
        for length in (6, MILLION):
            with self.assertRaises(NotNow):
                purse.end("c", length)
            self.assertEqual(state(purse), before)
        self.assertEqual(purse.end("c", 5), 70)
        self.assertEqual(told(purse, "end", "c", MILLION), "NoCall")

    def test_what_was_held_is_free_again(self):
        purse = purse_with(100)
        purse.begin("c", "5000", 0, 100)
        self.assertEqual(told(purse, "begin", "d", "5000", 0, 1), "NoMoney")
        purse.put(50)
        purse.end("c", 2)
        self.assertEqual(purse.begin("d", "5000", 0, 100), 10)

    def test_the_sequence_in_which_they_ended(self):
        purse = purse_with(10000)
        for call in ("b", "c", "a"):
            purse.begin(call, "5000", 0, 10)
        self.assertEqual([row[0] for row in purse.running()], ["a", "b", "c"])
        for length, call in enumerate(("c", "a", "b")):
            purse.end(call, length)
        self.assertEqual(purse.ended(), (("c", 50), ("a", 54), ("b", 58)))


class LastingTest(unittest.TestCase):

    def test_lists_and_later_changes(self):
        for form in (as_lists, mixed):
            passed = [form(CALM), form(TARIFF)]
            before = copy.deepcopy(passed)
            purse, other = Purse(passed[0], passed[1], 500), purse_with(500)
            self.assertEqual(purse, other)
            self.assertEqual(repr(passed), repr(before))
            for each in passed:
                for at in sorted(places(each), key=len, reverse=True):
                    inner = each
                    for step in at:
                        inner = inner[step]
                    if isinstance(inner, list):
                        inner.append("later")
            for each in (purse, other):
                each.begin("c", "5000", 86390, 20)
                each.end("c", 12)
                each.begin("d", "4000", 0, 3)
            self.assertEqual(purse, other)
            self.assertEqual(state(purse), state(other))

    def test_what_was_returned_stays(self):
        purse = purse_with(500)
        purse.begin("c", "5000", 0, 10)
        purse.begin("d", "5000", 0, 10)
        purse.end("c", 2)
        returned = state(purse)
        before = copy.deepcopy(returned)
        self.assertTrue(plain(returned))
        purse.more("d", 5)
        purse.end("d", 1)
        purse.put(3)
        self.assertEqual(returned, before)
        self.assertNotEqual(state(purse), before)


class EqualityTest(unittest.TestCase):

    def test_purses_that_are_equal(self):
        one, other = purse_with(1000), purse_with(900)
        one.begin("c", "5000", 0, 10)
        one.begin("d", "5000", 0, 10)
        other.put(100)
        other.begin("d", "5000", 0, 4)
        other.begin("c", "5000", 0, 10)
        self.assertFalse(one == other)
        other.more("d", 6)
        self.assertTrue(one == other)
        self.assertFalse(one != other)

    def test_purses_that_are_not(self):
        def made(week=CALM, tariff=TARIFF, money=1000, call="c", number="5000", begin=10, cap=10, length=None):
            purse = Purse(week, tariff, money)
            purse.begin(call, number, begin, cap)
            if length is not None:
                purse.end(call, length)
            return purse

        purses = [made(), made(week=one_band((1, 2))), made(tariff=TARIFF[:2] + (TARIFF[2][:2],)), made(money=1001),
                  made(call="d"), made(number="5001"), made(begin=11), made(cap=11), made(length=0), made(length=1),
                  made(call="d", length=0), Purse(CALM, TARIFF, 1000)]
        for at, one in enumerate(purses):
            for where, other in enumerate(purses):
                self.assertIs(one == other, at == where, (at, where))
                self.assertIs(one != other, at != where)

    def test_the_sequence_of_ends_counts(self):
        one, other = purse_with(1000), purse_with(1000)
        for purse, calls in ((one, "cd"), (other, "dc")):
            purse.begin("c", "5000", 0, 10)
            purse.begin("d", "5000", 0, 10)
            for call in calls:
                purse.end(call, 3)
        self.assertFalse(one == other)

    def test_a_purse_equals_nothing_else(self):
        purse = purse_with(5)
        for other in (None, 5, (), (CALM, TARIFF, 5), House(*SIMPLE), object()):
            self.assertFalse(purse == other)
            self.assertFalse(other == purse)
            self.assertTrue(purse != other)


class DrawnTest(unittest.TestCase):
    """[16] and [17] over drawn purses, and the slow reading."""

    CALLS = ("a", "b", "c", "d", "e", "f")
    BEGINS = (0, 3, 990, 1000, 86390, 2 * 86400 - 3, LAST - 3, LAST)

    def step(self, chance):
        """A drawn call of a method."""
        name = chance.choice(("put", "begin", "begin", "more", "end"))
        call = chance.choice(self.CALLS)
        if name == "put":
            return name, chance.choice((1, 5, 30))
        if name == "begin":
            return name, call, chance.choice(("11", "4000", "40123", "5000")), chance.choice(self.BEGINS), chance.randint(1, 30)
        if name == "more":
            return name, call, chance.randint(1, 30)
        return name, call, chance.randint(0, 25)

    def drawn(self, chance):
        return (WEEK, chance.choice((PLAIN, ODD, FREE)), chance.choice((0, 20, 60, 200, 1000)))

    def test_against_the_slow_reading(self):
        chance = random.Random(SEED)
        errors = {}
        for _ in range(250):
            arguments = self.drawn(chance)
            purse, slow = Purse(*arguments), SlowPurse(*arguments)
            for _ in range(20):
                step = self.step(chance)
                found = told(purse, *step)
                self.assertEqual(found, getattr(slow, step[0])(*step[1:]), (arguments, step))
                self.assertEqual(state(purse), state(slow))
                errors[found if isinstance(found, str) else "none"] = True
        self.assertEqual(sorted(errors), ["NoCall", "NoMoney", "NotNow", "TakenCall", "none"])

    def test_16_and_17(self):
        chance = random.Random(SEED + 1)
        for _ in range(200):
            week, tariff, money = self.drawn(chance)
            purse = Purse(week, tariff, money)
            calls, put = {}, 0
            for _ in range(20):
                step = self.step(chance)
                free = purse.money() - purse.held()
                before = state(purse)
                found = told(purse, *step)
                if isinstance(found, str):
                    self.assertEqual(state(purse), before)
                if step[0] == "put":
                    put += step[1]
                elif step[0] == "begin" and found != "TakenCall":
                    first = tariff[0] + reference.price(tariff, week, step[2], step[3])
                    self.assertIs(found == "NoMoney", free < first)
                    if found != "NoMoney":
                        calls[step[1]] = [step[2], step[3], found]
                elif step[0] == "more" and found != "NoCall":
                    calls[step[1]][2] += found
                elif step[0] == "end" and not isinstance(found, str):
                    self.assertEqual(found, cost(tariff, week, *calls.pop(step[1])[:2], step[2]))
                if step[0] in ("begin", "more") and not isinstance(found, str) and found < step[-1]:
                    number, begin, granted = calls[step[1]]
                    self.assertGreater(reference.price(tariff, week, number, begin + granted) if begin + granted <= LAST
                                       else cost(tariff, week, number, LAST, begin + granted - LAST + 1)
                                       - cost(tariff, week, number, LAST, begin + granted - LAST),
                                       purse.money() - purse.held())
                self.assertGreaterEqual(purse.money(), purse.held())
                self.assertGreaterEqual(purse.held(), 0)
                self.assertEqual(purse.money(), money + put - sum(paid for _, paid in purse.ended()))
                self.assertEqual(purse.held(), sum(cost(tariff, week, *call) for call in calls.values()))
                self.assertEqual(purse.running(), tuple(
                    (call, calls[call][2], cost(tariff, week, *calls[call])) for call in sorted(calls)))

    def test_copies(self):
        chance = random.Random(SEED + 2)
        for _ in range(150):
            purse = Purse(*self.drawn(chance))
            for _ in range(10):
                told(purse, *self.step(chance))
            other = purse.copy()
            self.assertIsInstance(other, Purse)
            self.assertIsNot(other, purse)
            self.assertEqual(other, purse)
            self.assertEqual(state(other), state(purse))
            steps = [self.step(chance) for _ in range(10)]
            before = state(purse)
            results = [told(other, *step) for step in steps]
            self.assertEqual(state(purse), before)
            changed = state(other)
            self.assertEqual([told(purse, *step) for step in steps], results)
            self.assertEqual(state(other), changed)
            self.assertEqual(other, purse)

    def test_lists_at_every_level(self):
        chance = random.Random(SEED + 3)
        for _ in range(50):
            arguments = self.drawn(chance)
            purse = Purse(*arguments)
            others = [Purse(*[form(each) for each in arguments]) for form in (as_lists, mixed)]
            for _ in range(10):
                step = self.step(chance)
                found = told(purse, *step)
                for other in others:
                    self.assertEqual(told(other, *step), found)
                    self.assertEqual(other, purse)
                    self.assertEqual(state(other), state(purse))


if __name__ == "__main__":
    unittest.main()
