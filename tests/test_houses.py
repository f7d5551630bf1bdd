import copy
import unittest

from calls import MethodChecks, position
from eachsecond.errors import BadValue, Clash, NotNow
from eachsecond.houses import House
from house_samples import (
    ANN, ARGUMENTS, BLOCKS, DAY, RATES, SIMPLE, TARIFF, WEEK, answers, built, closings, piece, refused, simple, state,
)
from samples import CALM, OFFICE, STRANGE, as_lists, mixed, places, plain, put

LAST = 10 ** 8

class HouseMethodTest(MethodChecks, unittest.TestCase):
    METHODS = (
        ("tell", "fact", (("forward", ("11", 0), 0, ("4000",)),)),
        ("ring", "number second", ("4000", 5)),
        ("usage", "customer cycle", ("ann", 0)),
        ("unheld", "cycle", (0,)),
        ("bill", "customer cycle", ("ann", 0)),
        ("invoiced", "customer cycle", ("ann", 0)),
        ("pay", "customer amount", ("ann", 5)),
        ("balance", "customer", ("ann",)),
    )

    def made(self):
        house = simple(piece("c", 0, 30))
        house.close()
        return house

    def state(self, thing):
        return state(thing)

    def takes(self, name, at, strange):
        return (name, at) == ("pay", 1) and strange == LAST + 1

    def test_bounds(self):
        words = ("a", "zed", "abcdefgh"), ("", "abcdefghi", "Ann", "a1", None, 1, ("ann",))
        for name in ("usage", "bill", "invoiced", "pay", "balance"):
            self.check_bounds(name, 0, *words)
        self.check_bounds("ring", 0, ("11", "400", "12345678"), ("1", "123456789", "", "4a0", None, 400))
        self.check_bounds("ring", 1, (0, LAST), (-1, LAST + 1, True, None, "0"))
        for name, at in (("usage", 1), ("bill", 1), ("invoiced", 1), ("unheld", 0)):
            self.check_bounds(name, at, (0, 1, 200000), (-1, 200001, True, False, None, "0", (0,)))
        self.check_bounds("pay", 1, (1, 10 ** 12), (0, -1, 10 ** 12 + 1, True, None, "5"))

    def test_methods_without_arguments(self):
        house = self.made()
        for name in ("facts", "plan", "customers", "close", "invoices", "owed", "copy", "log"):
            with self.assertRaises(TypeError):
                getattr(house, name)(1)

    def test_methods_without_a_result(self):
        house = self.made()
        self.assertIsNone(house.tell(piece("d", 0, 1)))
        self.assertIsNone(house.pay("ann", 1))


class HouseTest(unittest.TestCase):

    def test_arguments_by_name(self):
        house = House(rate=190, week=WEEK, cycle=1000, rates=RATES, blocks=BLOCKS)
        self.assertEqual(house, House(*ARGUMENTS))
        self.assertEqual(house.log(), (("house",) + ARGUMENTS,))

    def test_a_house_without_facts(self):
        house = House(*SIMPLE)
        self.assertEqual((house.facts(), house.customers(), house.invoices()), ((), (), ()))
        self.assertEqual(house.plan(), (SIMPLE[1], (), ()))
        self.assertEqual(house.ring("4000", 0), ("nowhere", "4000"))
        self.assertEqual(house.usage("ann", 0), ((), 0))
        self.assertEqual(house.bill("ann", 0), (0, (), 0, 0))
        self.assertEqual((house.unheld(0), house.invoiced("ann", 0), house.balance("ann")), (0, 0, 0))
        self.assertEqual(house.owed(), (("north", 0),))

    def test_arguments_within_their_bounds(self):
        for at, good in ((3, 1000), (3, 10 ** 7), (4, 0), (4, 1000), (1, ()), (2, ()), (0, (WEEK[0], ())),
                         (2, (("a", "a", 0), ("a", "b", 10 ** 6), ("b", "a", 5))),
                         (2, tuple(("a", name, 1) for name in "abcdefghijklmnopqrst"))):
            self.assertIsNone(position(House, ARGUMENTS[:at] + (good,) + ARGUMENTS[at + 1:]), good)
        for at, bad in ((3, 999), (3, 10 ** 7 + 1), (3, True), (3, "1000"), (4, -1), (4, 1001), (4, False),
                        (2, (("a", "b", -1),)), (2, (("a", "b", 10 ** 6 + 1),)), (2, (("a", "b", True),)),
                        (2, (("a", "b"),)), (2, (("a", "b", 1, 1),)), (2, (("A", "b", 1),)), (2, (("a", None, 1),)),
                        (2, (("a", "b", 1), ("a", "b", 2))), (2, (("b", "a", 1), ("a", "b", 2))),
                        (2, tuple(("a", name, 1) for name in "abcdefghijklmnopqrstu")), (2, "ab"), (2, None),
                        (1, (("4", 2, "north"),)), (1, (("4", 4, "a"), ("40", 4, "b"))), (0, WEEK[:1])):
            self.assertEqual(position(House, ARGUMENTS[:at] + (bad,) + ARGUMENTS[at + 1:]), at, bad)

    def test_strange_arguments(self):
        for at in range(5):
            for strange in STRANGE:
                told = position(House, ARGUMENTS[:at] + (strange,) + ARGUMENTS[at + 1:])
                self.assertEqual(told, None if at in (1, 2) and strange in ((), []) else at, (at, repr(strange)[:40]))
            self.assertEqual(position(House, ARGUMENTS[:at] + (None,) * (5 - at)), at)

    def test_strange_rates_at_every_place(self):
        for at in places(RATES)[1:]:
            for strange in STRANGE:
                told = position(House, ARGUMENTS[:2] + (put(RATES, at, strange),) + ARGUMENTS[3:])
                self.assertEqual(told, 2, (at, repr(strange)[:40]))

    def test_lists_and_later_changes(self):
        for form in (as_lists, mixed):
            passed = [form(each) for each in ARGUMENTS]
            before = copy.deepcopy(passed)
            house = House(*passed)
            facts = [form(fact) for fact in ANN + (piece("c", 0, 30), ("bundle", ("ann", 0, "x"), 0, (5, ("home",), ())))]
            told = copy.deepcopy(facts)
            for fact in facts:
                house.tell(fact)
            self.assertEqual(repr((passed, facts)), repr((before, told)))
            kept = state(house)
            for each in passed[:3] + facts:
                for at in sorted(places(each), key=len, reverse=True):
                    inner = each
                    for step in at:
                        inner = inner[step]
                    if isinstance(inner, list):
                        inner.append("later")
            self.assertEqual(state(house), kept)
            other = built(ANN, ARGUMENTS)
            other.tell(piece("c", 0, 30))
            other.tell(("bundle", ("ann", 0, "x"), 0, (5, ("home",), ())))
            self.assertEqual(state(house), state(other))
            self.assertEqual(house, other)
            # What was asked for the first time, and what it is asked behind further facts.
            for each in (house, other):
                each.tell(("hold", ("50123", 0), 0, ("bob", None)))
                each.tell(piece("d", 2 * DAY - 5, 30, caller="50123", dialled="4000"))
                each.tell(piece("e", 990, 30, dialled="50123"))
                each.close()
            self.assertEqual(state(house), state(other))
            self.assertEqual(state(house.copy()), state(other))

    def test_plain_tuples_are_returned_and_stay(self):
        house = House(*[as_lists(each) for each in ARGUMENTS])
        for fact in as_lists(ANN + (piece("c", 0, 30), ("bundle", ("ann", 0, "x"), 0, (5, ("home",), ())),
                                    ("forward", ("11", 0), 0, ("4000",)))):
            house.tell(fact)
        house.close()
        house.tell(as_lists(piece("d", 5, 30)))
        house.close()
        house.pay("ann", 5)
        returned = state(house) + [house.usage("ann", 0), house.bill("ann", 0)]
        before = copy.deepcopy(returned)
        for each in answers(house) + closings(house) + [house.log()]:
            self.assertTrue(isinstance(each, dict) or plain(each), each)
        self.assertTrue(all(plain(bill) for bill in answers(house)[4].values()))
        house.tell(piece("c", 0, 7, version=5))
        house.tell(("hold", ("4000", 3), 0, ("bob", "east")))
        house.close()
        house.pay("bob", 7)
        self.assertEqual(returned, before)
        self.assertNotEqual(state(house), before[:3])


class TellTest(unittest.TestCase):

    def test_a_clash_has_the_very_thing(self):
        house = simple()
        for fact in (("hold", ("4000", 0), 0, ("bob", None)), ["hold", ["4000", 0], 0, None],
                     ("uses", ["ann", 0], 0, "odd"), ("tariff", ("plain", 0), 0, (0, (("", "far"),), ()))):
            before = state(house)
            with self.assertRaises(Clash) as caught:
                house.tell(fact)
            self.assertIs(caught.exception.fact, fact)
            self.assertEqual(state(house), before)

    def test_void_facts_clash_too(self):
        house = simple(("piece", ("c", 0), 3, None))
        self.assertEqual(refused(house, piece("c", 0, 1, version=3)), Clash)
        self.assertIsNone(refused(house, piece("c", 0, 1, version=2)))
        self.assertEqual(refused(house, ("piece", ("c", 0), 2, None)), Clash)
        self.assertIsNone(refused(house, ["piece", ["c", 0], 3, None]))

    def test_other_kinds_keys_and_versions_do_not_clash(self):
        house = simple()
        for fact in (("forward", ("4000", 0), 0, ("11",)), ("hold", ("4001", 0), 0, ("bob", None)),
                     ("hold", ("4000", 1), 0, ("bob", None)), ("hold", ("4000", 0), 1, ("bob", None)),
                     ("uses", ("plain", 0), 0, "odd"), ("tariff", ("ann", 0), 0, (0, (("", "far"),), ()))):
            self.assertIsNone(refused(house, fact), fact)

    def test_a_fact_that_was_told_is_told_once_more(self):
        house = simple()
        before = answers(house)
        for form in (tuple, as_lists, mixed):
            house.tell(form(ANN[0]))
            self.assertEqual(house.log()[-1], ("tell", ANN[0]))
        self.assertEqual(len(house.log()), 1 + 3 + 3)
        self.assertEqual(answers(house), before)

    def test_at_most_400_different_facts(self):
        house = House(*SIMPLE)
        facts = [("hold", ("4000", second), version, None if version else ("ann", None))
                 for second in range(200) for version in (0, 1)]
        for fact in facts[:399]:
            house.tell(fact)
        for fact in facts[:10]:
            house.tell(fact)
        house.tell(facts[399])
        before = state(house)
        for other in (("hold", ("4000", 200), 0, None), ("hold", ("4000", 0), 2, ("ann", None)), piece("c", 0, 0)):
            self.assertEqual(refused(house, other), NotNow)
        self.assertEqual(state(house), before)
        for fact in facts:
            house.tell(fact)
        self.assertEqual(answers(house), before[1])
        self.assertEqual(len(house.log()), 1 + 410 + 400)

    def test_the_sequence_of_errors(self):
        house = House(*SIMPLE)
        for second in range(400):
            house.tell(("hold", ("4000", second), 0, ("ann", None)))
        clashing = ("hold", ("4000", 7), 0, ("bob", None))
        self.assertEqual(position(house.tell, (("hold", ("4000", 7), 0, ("Bob", None)),)), 0)
        self.assertEqual(position(house.tell, (("hold", ("4000", -1), 0, ("bob", None)),)), 0)
        self.assertEqual(refused(house, clashing), Clash)
        self.assertEqual(refused(house, clashing[:2] + (1,) + clashing[3:]), NotNow)
        for error in (Clash, NotNow):
            self.assertFalse(issubclass(error, BadValue))


class FactsTest(unittest.TestCase):

    def hold(self, version, customer, second=0):
        return ("hold", ("4000", second), version, None if customer is None else (customer, None))

    def test_the_greatest_version_counts(self):
        one, two, three = self.hold(0, "ann"), self.hold(5, "bob"), self.hold(1000, "cy")
        for told in ((one, two, three), (three, two, one), (two, three, one), (two, one, three, two, one)):
            house = House(*SIMPLE)
            best = None
            for fact in told:
                house.tell(fact)
                best = fact if best is None else max(best, fact, key=lambda each: each[2])
                self.assertEqual(house.facts(), (best,))

    def test_none_at_the_greatest_version(self):
        house = House(*SIMPLE)
        house.tell(self.hold(3, "ann"))
        house.tell(self.hold(4, None))
        self.assertEqual(house.facts(), ())
        house.tell(self.hold(2, "bob"))
        self.assertEqual(house.facts(), ())
        house.tell(self.hold(5, "cy"))
        self.assertEqual(house.facts(), (self.hold(5, "cy"),))
        house.tell(self.hold(1, None))
        self.assertEqual(house.facts(), (self.hold(5, "cy"),))

    def test_a_member_that_is_none_is_no_void_fact(self):
        facts = (("forward", ("11", 0), 0, (None,)), ("hold", ("4000", 0), 0, (None, None)))
        self.assertEqual(built(facts, SIMPLE).facts(), facts)

    def test_kinds_and_keys_ascend(self):
        facts = (
            ("bundle", ("ann", 0, "b"), 0, (1, (), ())), ("bundle", ("ann", 2, "a"), 0, (1, (), ())),
            ("bundle", ("ann", 10, "a"), 0, (1, (), ())), ("bundle", ("bob", 0, "a"), 0, (1, (), ())),
            ("forward", ("11", 9), 0, ("12",)), ("forward", ("11", 10), 0, ("12",)), ("forward", ("110", 0), 0, ("12",)),
            ("forward", ("12", 0), 0, ("12",)), ("hold", ("1000", 5), 0, ("ann", None)),
            ("hold", ("999", 0), 0, ("ann", None)), ("piece", ("a", 2), 0, ("4000", "11", 0, 0)),
            ("piece", ("a", 10), 0, ("4000", "11", 0, 0)), ("tariff", ("p", 0), 0, TARIFF),
            ("uses", ("ann", 0), 1000, "p"))
        self.assertEqual(built(facts[::-1], SIMPLE).facts(), facts)
        self.assertEqual(built(facts[5:] + facts[:5], SIMPLE).facts(), facts)


class PlanTest(unittest.TestCase):

    def test_plan_and_ring(self):
        house = built((
            ("hold", ("999", 7), 0, ("bob", "west")), ("hold", ("4000", 5), 0, ("ann", None)),
            ("hold", ("4000", 9), 0, (None, "west")), ("hold", ("4000", 7), 0, ("cy", None)),
            ("hold", ("4000", 7), 1, None), ("forward", ("11", 3), 0, ("4000",)), ("forward", ("11", 8), 0, (None,)),
            ("uses", ("ann", 0), 0, "plain"), piece("c", 0, 5)), SIMPLE)
        self.assertEqual(house.plan(), (
            (("4", 4, "north"),),
            (("4000", 5, "ann", None), ("4000", 9, None, "west"), ("999", 7, "bob", "west")),
            (("11", 3, "4000"), ("11", 8, None))))
        self.assertEqual(house.ring("11", 2), ("nowhere", "11"))
        self.assertEqual(house.ring("11", 3), ("nowhere", "4000"))
        self.assertEqual(house.ring("11", 7), ("rings", "4000", "ann", "north"))
        self.assertEqual(house.ring("11", 8), ("nowhere", "11"))
        self.assertEqual(house.ring("4000", LAST), ("nowhere", "4000"))
        self.assertEqual(house.ring("999", 8), ("nowhere", "999"))
        house.tell(("forward", ("4000", 5), 0, ("11",)))
        self.assertEqual(house.ring("4000", 6), ("circle", "4000"))
        self.assertEqual(house.ring("11", 5), ("circle", "11"))


class UsageTest(unittest.TestCase):

    def test_ordinary(self):
        house = simple(piece("c", 10, 30), piece("d", 5, 7, dialled="4123"))
        self.assertEqual(house.usage("ann", 0), ((("far", "low", 4, 30), ("home", "low", 2, 7)), 100))
        self.assertEqual(house.usage("ann", 1), ((), 0))
        self.assertEqual(house.usage("bob", 0), ((), 0))
        self.assertEqual(house.unheld(0), 0)

    def test_the_document_s_first_example_of_a_call(self):
        day = ((0, "low"), (28800, "high"), (64800, "low"))
        tariff = (50, (("", "far"), ("40", "home")), (("far", "high", 9), ("far", "low", 4), ("home", "high", 2)))
        house = built((("hold", ("4000", 0), 0, ("ann", None)), ("uses", ("ann", 0), 0, "p"),
                       ("tariff", ("p", 0), 0, tariff), piece("c", 28790, 30)),
                      (((day,) * 8, ()), SIMPLE[1], (), DAY, 0))
        self.assertEqual(house.usage("ann", 0), ((("far", "high", 9, 20), ("far", "low", 4, 10)), 50))
        self.assertEqual(house.bill("ann", 0), (270, (("far", 270),), 0, 270))

    def test_pieces_of_no_second(self):
        for begin in (0, 1, 10, 999, 1000, LAST):
            for place in (0, 1):
                house = simple(piece("c", begin, 0, place))
                for cycle in (0, 1, begin // 1000):
                    self.assertEqual((house.usage("ann", cycle), house.unheld(cycle)), (((), 0), 0))
                    self.assertEqual(house.bill("ann", cycle), (0, (), 0, 0))

    def test_pieces_over_the_end_of_a_cycle(self):
        house = simple(piece("c", 998, 5))
        self.assertEqual(house.usage("ann", 0), ((("far", "low", 4, 2),), 50))
        self.assertEqual(house.usage("ann", 1), ((("far", "low", 4, 3),), 0))
        house = simple(piece("c", 999, 1002))
        self.assertEqual([house.usage("ann", cycle) for cycle in range(4)], [
            ((("far", "low", 4, 1),), 50), ((("far", "low", 4, 1000),), 0), ((("far", "low", 4, 1),), 0), ((), 0)])

    def test_pieces_at_the_ends_of_a_cycle(self):
        house = simple(piece("c", 990, 10), piece("d", 1000, 10), piece("e", 1990, 10))
        self.assertEqual(house.usage("ann", 0), ((("far", "low", 4, 10),), 50))
        self.assertEqual(house.usage("ann", 1), ((("far", "low", 4, 20),), 100))
        self.assertEqual(house.usage("ann", 2), ((), 0))

    def test_pieces_over_the_ends_of_days_and_feasts(self):
        house = simple(piece("c", DAY - 3, 5), piece("d", 2 * DAY - 1, 4))
        self.assertEqual(house.usage("ann", 86), ((("far", "high", 9, 2), ("far", "low", 4, 3)), 50))
        self.assertEqual(house.usage("ann", 172), ((("far", "high", 9, 1), ("far", "low", 4, 3)), 50))

    def test_a_piece_over_a_band_s_start_in_another_day_of_the_week(self):
        tuesday = ((0, "low"), (7, "mid"))
        days = (CALM, tuesday) + (OFFICE,) * 5 + (CALM,)
        house = built(ANN + (piece("c", DAY - 1, 10),), ((days, ()),) + SIMPLE[1:])
        self.assertEqual(house.usage("ann", 86), ((("far", "low", 4, 8), ("far", "mid", 0, 2)), 50))

    def test_both_pieces_of_the_same_seconds(self):
        house = simple(piece("c", 10, 30), piece("c", 20, 30, 1), piece("d", 10, 30, 3))
        self.assertEqual(house.usage("ann", 0), ((("far", "low", 4, 90),), 50))

    def test_a_number_held_by_one_customer_and_then_by_another_or_nobody(self):
        house = simple(
            ("hold", ("4000", 15), 0, ("bob", "west")), ("hold", ("4000", 18), 0, (None, "west")),
            ("hold", ("4000", 20), 0, ("ann", None)), ("uses", ("bob", 0), 0, "plain"), piece("c", 10, 30))
        self.assertEqual(house.usage("ann", 0), ((("far", "low", 4, 25),), 50))
        self.assertEqual(house.usage("bob", 0), ((("far", "low", 4, 3),), 0))
        self.assertEqual(house.unheld(0), 2)

    def test_numbers_that_nobody_holds(self):
        house = simple(("hold", ("5000", 0), 0, ("ann", "west")), ("hold", ("4001", 20), 0, ("ann", None)),
                       piece("c", 10, 30, caller="5000"), piece("d", 10, 30, caller="4001"),
                       piece("e", 998, 7, caller="4002"))
        self.assertEqual(house.usage("ann", 0), ((("far", "low", 4, 20),), 0))
        self.assertEqual([house.unheld(cycle) for cycle in range(3)], [30 + 10 + 2, 5, 0])

    def test_who_holds_is_charged_not_who_is_forwarded(self):
        house = simple(("forward", ("4000", 0), 0, ("4001",)), ("hold", ("4001", 0), 0, ("bob", None)),
                       ("forward", ("5000", 0), 0, ("4001",)), piece("c", 10, 5))
        self.assertEqual(house.usage("ann", 0), ((("far", "low", 4, 5),), 50))
        self.assertEqual(house.usage("bob", 0), ((), 0))

    def test_customers_without_a_tariff(self):
        for missing in (("uses", ("ann", 0), 1, None), ("tariff", ("plain", 0), 1, None), ("uses", ("ann", 0), 1, "odd")):
            house = simple(missing, piece("c", DAY - 2, 3))
            self.assertEqual(house.usage("ann", 86), ((("none", "high", 0, 1), ("none", "low", 0, 2)), 0))
            self.assertEqual(house.bill("ann", 86), (0, (("none", 0),), 0, 0))
            self.assertEqual(house.unheld(86), 0)

    def test_tariffs_that_begin_later(self):
        odd = (3, (("", "far"),), (("far", "low", 10),))
        house = built((ANN[0], ("uses", ("ann", 12), 0, "plain"), ("tariff", ("plain", 14), 0, TARIFF),
                       ("tariff", ("plain", 20), 0, odd), piece("c", 10, 15), piece("d", 14, 1), piece("e", 13, 2),
                       piece("f", 20, 1)), SIMPLE)
        self.assertEqual(house.usage("ann", 0), (
            (("far", "low", 4, 6 + 1 + 1), ("far", "low", 10, 5 + 1), ("none", "low", 0, 4 + 1)), 50 + 3))

    def test_the_tariff_is_that_of_the_name_used_then(self):
        odd = (3, (("", "odd"),), (("odd", "low", 10),))
        house = simple(("tariff", ("odd", 15), 0, odd), ("uses", ("ann", 12), 0, "odd"), ("uses", ("ann", 18), 0, "plain"),
                       ("uses", ("ann", 19), 0, "lost"), piece("c", 10, 11))
        self.assertEqual(house.usage("ann", 0), (
            (("far", "low", 4, 2 + 1), ("none", "low", 0, 3 + 2), ("odd", "low", 10, 3)), 50))

    def test_a_void_use_leaves_the_one_before_it(self):
        house = simple(("uses", ("ann", 5), 0, "odd"), ("uses", ("ann", 5), 1, None), piece("c", 4, 3))
        self.assertEqual(house.usage("ann", 0), ((("far", "low", 4, 3),), 50))

    def test_setups_of_pieces_0_alone(self):
        house = simple(piece("c", 10, 1, 1), piece("c", 20, 1, 100))
        self.assertEqual(house.usage("ann", 0)[1], 0)
        house.tell(piece("c", 999, 2))
        self.assertEqual([house.usage("ann", cycle)[1] for cycle in range(3)], [50, 0, 0])
        house.tell(piece("d", 1000, 2))
        self.assertEqual([house.usage("ann", cycle)[1] for cycle in range(3)], [50, 50, 0])

    def test_no_setup_where_the_first_second_is_not_held_or_has_no_tariff(self):
        house = built((("hold", ("4000", 11), 0, ("ann", None)),) + ANN[1:] + (piece("c", 10, 5),), SIMPLE)
        self.assertEqual(house.usage("ann", 0), ((("far", "low", 4, 4),), 0))
        house = built(ANN[:1] + (("uses", ("ann", 11), 0, "plain"), ANN[2], piece("c", 10, 5)), SIMPLE)
        self.assertEqual(house.usage("ann", 0), ((("far", "low", 4, 4), ("none", "low", 0, 1)), 0))

    def test_the_setup_of_the_first_second_s_tariff_and_customer(self):
        odd = (3, (("", "far"),), (("far", "low", 4),))
        house = simple(("tariff", ("plain", 11), 0, odd), ("hold", ("4000", 12), 0, ("bob", None)),
                       ("uses", ("bob", 0), 0, "plain"), piece("c", 10, 5), piece("d", 12, 5), piece("e", 11, 9))
        self.assertEqual(house.usage("ann", 0), ((("far", "low", 4, 2 + 1),), 50 + 3))
        self.assertEqual(house.usage("bob", 0), ((("far", "low", 4, 3 + 5 + 8),), 3))

    def test_zones_of_no_price(self):
        free = (0, (("", "far"), ("5", "none")), (("far", "low", 0),))
        house = simple(("tariff", ("plain", 0), 1, free), piece("c", 0, 5, dialled="11"), piece("d", 0, 7))
        self.assertEqual(house.usage("ann", 0), ((("far", "low", 0, 5), ("none", "low", 0, 7)), 0))
        self.assertEqual(house.bill("ann", 0), (0, (("far", 0), ("none", 0)), 0, 0))

    def test_groups_ascend_also_by_price(self):
        prices = tuple(("far", name, cost) for name, cost in (("high", 10), ("low", 9)))
        house = simple(("tariff", ("plain", 5), 0, (0, (("", "far"),), prices)), piece("c", 0, 10),
                       piece("d", DAY, 3), piece("e", 3, 1, dialled="4"* 4))
        self.assertEqual(house.usage("ann", 0)[0], (("far", "low", 4, 5), ("far", "low", 9, 5), ("home", "low", 2, 1)))

    def test_both_sides_of_the_last_second(self):
        house = simple(piece("c", LAST - 5, 10), piece("d", LAST, 10 ** 6), ("hold", ("4000", LAST), 0, ("bob", None)),
                       ("uses", ("bob", LAST), 0, "plain"))
        self.assertEqual(house.usage("ann", 99999), ((("far", "low", 4, 5),), 50))
        self.assertEqual(house.usage("ann", 100000), ((), 0))
        self.assertEqual(house.usage("bob", 100000), ((("far", "low", 4, 1005),), 50))
        self.assertEqual(house.usage("bob", 100999), ((("far", "low", 4, 1000),), 0))
        self.assertEqual(house.usage("bob", 101000), ((), 0))

    def test_bands_above_the_last_second(self):
        # Second 10 ** 8 stands in the day 1157, the rest of which modulo 7 is 2; the next one begins at 100051200.
        days = tuple(((0, name),) for name in "abcdefgh")
        house = built(ANN[:1] + (piece("c", LAST, 10 ** 6),), ((days, ()), SIMPLE[1], (), 10 ** 7, 0))
        seconds = {group[1]: group[3] for group in house.usage("ann", 10)[0]}
        self.assertEqual(seconds["c"], 51200 + DAY)
        self.assertEqual(sum(seconds.values()), 10 ** 6)
        self.assertEqual(sorted(seconds), list("abcdefg"))

    def test_pieces_that_change_and_go(self):
        house = simple(piece("c", 0, 10))
        self.assertEqual(house.usage("ann", 0), ((("far", "low", 4, 10),), 50))
        house.tell(piece("c", 1000, 20, version=2))
        self.assertEqual((house.usage("ann", 0), house.usage("ann", 1)), (((), 0), ((("far", "low", 4, 20),), 50)))
        house.tell(piece("c", 0, 30, version=1))
        self.assertEqual((house.usage("ann", 0), house.usage("ann", 1)), (((), 0), ((("far", "low", 4, 20),), 50)))
        house.tell(("piece", ("c", 0), 3, None))
        self.assertEqual((house.usage("ann", 0), house.usage("ann", 1)), (((), 0), ((), 0)))
        house.tell(piece("c", 0, 5, version=4, caller="4001"))
        self.assertEqual((house.usage("ann", 0), house.unheld(0)), (((), 0), 5))

    def test_facts_told_behind_a_question(self):
        house = simple(piece("c", 0, 10), piece("d", 1000, 10))
        self.assertEqual(house.usage("ann", 1), ((("far", "low", 4, 10),), 50))
        self.assertEqual(house.usage("ann", 0), ((("far", "low", 4, 10),), 50))
        house.tell(("hold", ("4000", 5), 0, ("bob", None)))
        self.assertEqual(house.usage("ann", 0), ((("far", "low", 4, 5),), 50))
        self.assertEqual(house.usage("ann", 1), ((), 0))
        self.assertEqual(house.usage("bob", 1), ((("none", "low", 0, 10),), 0))
        house.tell(("uses", ("bob", 1003), 0, "plain"))
        self.assertEqual(house.usage("bob", 1), ((("far", "low", 4, 7), ("none", "low", 0, 3)), 0))
        house.tell(("tariff", ("plain", 1005), 0, (1, (("", "odd"),), ())))
        self.assertEqual(house.usage("bob", 1), ((("far", "low", 4, 2), ("none", "low", 0, 3), ("odd", "low", 0, 5)), 0))

    def test_the_longest_cycles(self):
        house = built(ANN + (piece("c", 10 ** 7 - 1, 3),), SIMPLE[:3] + (10 ** 7, 0))
        self.assertEqual(house.usage("ann", 0), ((("far", "low", 4, 1),), 50))
        self.assertEqual(house.usage("ann", 1), ((("far", "low", 4, 2),), 0))
        self.assertEqual(house.usage("ann", 200000), ((), 0))
        self.assertEqual(house.unheld(200000), 0)


class BillTest(unittest.TestCase):

    def test_without_bundles(self):
        house = simple(piece("c", 10, 30), piece("d", 5, 8, dialled="4123"))
        # Net is 100 of setups, 120 far and 16 home; the parts go by 121 and 17.
        self.assertEqual(house.bill("ann", 0), (236, (("far", 207), ("home", 29)), 24, 260))

    def test_tax_is_rounded_upward_from_halves(self):
        for rate, tax in ((0, 0), (5, 1), (4, 1), (1, 0), (19, 4), (20, 4), (1000, 206)):
            house = built(ANN + (piece("c", 0, 39),), SIMPLE[:4] + (rate,))
            self.assertEqual(house.bill("ann", 0), (206, (("far", 206),), tax, 206 + tax))

    def test_bundles(self):
        bundle = ("bundle", ("ann", 0, "x"), 0, (25, ("far", "home"), ("low",)))
        house = simple(piece("c", 10, 30), piece("d", 5, 8, dialled="4123"), bundle)
        self.assertEqual(house.bill("ann", 0)[0], 236 - 100)
        for other in (("bob", 0, "x"), ("ann", 1, "x")):
            house = simple(piece("c", 10, 30), piece("d", 5, 8, dialled="4123"), bundle[:1] + (other,) + bundle[2:])
            self.assertEqual(house.bill("ann", 0)[0], 236)
        house = simple(piece("c", 10, 30), bundle, ("bundle", ("ann", 0, "y"), 0, (3, ("far",), ("low",))))
        self.assertEqual(house.bill("ann", 0)[0], 50 + 2 * 4)
        house.tell(("bundle", ("ann", 0, "x"), 1, None))
        self.assertEqual(house.bill("ann", 0)[0], 50 + 27 * 4)

    def test_parts_are_of_net_behind_bundles(self):
        house = simple(piece("c", 10, 30), piece("d", 5, 8, dialled="4123"),
                       ("bundle", ("ann", 0, "x"), 0, (10 ** 9, ("far", "home"), ("low",))))
        # 100 of setups by 121 and 17.
        self.assertEqual(house.bill("ann", 0), (100, (("far", 88), ("home", 12)), 10, 110))

    def test_the_least_eight_bundles_by_word(self):
        seconds = {"a": 31, "b": 1, "c": 1, "d": 1, "e": 1, "f": 1, "g": 1, "h": 1, "i": 11}
        house = simple(piece("c", 0, 100))
        told = []
        for name in "ihgfedcba":
            house.tell(("bundle", ("ann", 0, name), 0, (seconds[name], ("far",), ("low",))))
            told.append(name)
            taken = sum(seconds[each] for each in sorted(told)[:8])
            self.assertEqual(house.bill("ann", 0)[0], 50 + 4 * (100 - taken), name)
        house.tell(("bundle", ("ann", 0, "b"), 1, None))
        self.assertEqual(house.bill("ann", 0)[0], 50 + 4 * (100 - 31 - 6 - 11))

    def test_the_last_cycle_with_bundles(self):
        house = simple(piece("c", 10 ** 6, 10), piece("d", 10 ** 6 + 1000, 10),
                       ("bundle", ("ann", 1000, "x"), 0, (5, ("far",), ("low",))))
        self.assertEqual(house.bill("ann", 1000)[0], 50 + 20)
        self.assertEqual(house.bill("ann", 1001)[0], 50 + 40)

    def test_equal_rests_go_to_the_first_zones(self):
        zones = (("", "d"), ("1", "c"), ("2", "b"), ("3", "a"))
        tariff = (5, zones, ())
        house = simple(("tariff", ("plain", 0), 1, tariff), *(
            piece(name, 0, 1, at, dialled=dialled)
            for at, (name, dialled) in enumerate((("p", "11"), ("q", "22"), ("r", "33"), ("s", "44")))))
        self.assertEqual(house.bill("ann", 0), (5, (("a", 2), ("b", 1), ("c", 1), ("d", 1)), 1, 6))

    def test_customers_that_have_nothing(self):
        house = simple(piece("c", 0, 10))
        for customer, cycle in (("ann", 1), ("bob", 0), ("plain", 0), ("ann", 200000)):
            self.assertEqual(house.bill(customer, cycle), (0, (), 0, 0))


class CustomersTest(unittest.TestCase):

    def test_of_holds_uses_and_bundles(self):
        house = built((
            ("hold", ("4000", 0), 0, ("cy", "carrier")), ("hold", ("5000", 0), 0, ("dan", None)),
            ("hold", ("4001", 0), 0, (None, None)), ("uses", ("bob", 0), 0, "plain"),
            ("bundle", ("ann", 9, "word"), 0, (0, (), ())), ("tariff", ("tar", 0), 0, TARIFF), piece("call", 0, 0),
            ("uses", ("cy", 5), 0, "plain"), ("forward", ("11", 0), 0, ("12",))), SIMPLE)
        self.assertEqual(house.customers(), ("ann", "bob", "cy", "dan"))
        house.tell(("hold", ("5000", 0), 1, None))
        house.tell(("uses", ("bob", 0), 1, None))
        house.tell(("bundle", ("ann", 9, "word"), 1, None))
        self.assertEqual(house.customers(), ("cy",))
        house.tell(("hold", ("4000", 0), 1, None))
        self.assertEqual(house.customers(), ("cy",))
        house.tell(("uses", ("cy", 5), 1, None))
        self.assertEqual(house.customers(), ())


if __name__ == "__main__":
    unittest.main()
