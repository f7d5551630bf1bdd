"""Drawn houses, compared with the slow reading, and what the document guarantees of all houses."""

import copy
import random
import unittest

from calls import position
from eachsecond.carriers import payments, settles
from eachsecond.errors import Clash
from eachsecond.houses import House
from eachsecond.plans import ring
from house_samples import (
    CUSTOMERS, CYCLES, DAY, NUMBERS, answers, bills, built, closings, drawn_arguments, drawn_fact, drawn_facts,
    drawn_house, drawn_key, refused, state,
)
from samples import as_lists, mixed
from slow_house import SlowHouse

SEED = 20261120


def changed_bills(before, after):
    return {key for key in before if before[key] != after[key]}


class SlowReadingTest(unittest.TestCase):

    def test_answers(self):
        chance = random.Random(SEED)
        seen = {"setup": 0, "group": 0, "unheld": 0, "owed": 0, "circle": 0}
        for number in range(400):
            arguments = drawn_arguments(chance)
            house, slow = House(*arguments), SlowHouse(*arguments)
            for fact in drawn_facts(chance, chance.randint(0, 40)):
                house.tell(fact)
                slow.tell(fact)
            told = answers(house)
            self.assertEqual(told, answers(slow), (number, house.log()))
            usages = [house.usage(customer, cycle) for customer in CUSTOMERS for cycle in CYCLES]
            seen["setup"] += any(setups for _, setups in usages)
            seen["group"] += any(len(groups) > 1 for groups, _ in usages)
            seen["unheld"] += any(house.unheld(cycle) for cycle in CYCLES)
            seen["owed"] += any(money for _, money in house.owed())
            seen["circle"] += any(each[0] == "circle" for each in told[-6 * len(NUMBERS):])
        # So many of the drawn houses have something of each kind to compare.
        self.assertGreater(min(seen.values()), 40, seen)

    def test_answers_behind_each_fact(self):
        chance = random.Random(SEED + 1)
        for number in range(40):
            arguments = drawn_arguments(chance)
            house, slow = House(*arguments), SlowHouse(*arguments)
            for fact in drawn_facts(chance, 20):
                house.tell(fact)
                slow.tell(fact)
                self.assertEqual(answers(house), answers(slow), (number, house.log()))

    def test_closings(self):
        chance = random.Random(SEED + 2)
        corrections = 0
        for number in range(150):
            arguments = drawn_arguments(chance)
            house, slow = House(*arguments), SlowHouse(*arguments)
            for fact in drawn_facts(chance, 25):
                house.tell(fact)
                slow.tell(fact)
                if chance.random() < 0.3:
                    self.assertEqual(house.close(), slow.close())
                    self.assertEqual(house.invoices(), slow.invoices(), (number, house.log()))
                if chance.random() < 0.2:
                    paid = (chance.choice(CUSTOMERS), chance.randint(1, 500))
                    house.pay(*paid)
                    slow.pay(*paid)
            self.assertEqual(closings(house), closings(slow), (number, house.log()))
            corrections += sum(len(invoice[3]) for invoice in house.invoices())
        self.assertGreater(corrections, 100)


class GuaranteeTest(unittest.TestCase):
    """The numbers are those of the document."""

    def drawn(self, seed, many, most=25):
        chance = random.Random(SEED + seed)
        for _ in range(many):
            yield chance, drawn_house(chance, chance.randint(1, most))

    def test_8_each_second_once(self):
        for _, house in self.drawn(8, 150):
            length = house.log()[0][4]
            pieces = [fact[3] for fact in house.facts() if fact[0] == "piece"]
            cycles = {second // length for _, _, begin, many in pieces for second in range(begin, begin + many)}
            charged = sum(group[3] for customer in house.customers() for cycle in cycles
                          for group in house.usage(customer, cycle)[0])
            self.assertEqual(charged + sum(house.unheld(cycle) for cycle in cycles), sum(row[3] for row in pieces))

    def test_9_any_sequence(self):
        for chance, house in self.drawn(9, 100):
            facts = [row[1] for row in house.log() if row[0] == "tell"]
            for _ in range(2):
                again = facts + chance.sample(facts, chance.randint(0, len(facts)))
                chance.shuffle(again)
                other = built(again, house.log()[0][1:])
                self.assertEqual(other.facts(), house.facts())
                self.assertEqual(answers(other), answers(house))

    def test_10_bills_from_nothing(self):
        for _, house in self.drawn(10, 100):
            self.assertEqual(answers(built(house.facts(), house.log()[0][1:])), answers(house))

    def test_10_what_a_fact_changes(self):
        chance = random.Random(SEED + 10)
        counted = dict.fromkeys(("hold", "forward", "uses", "tariff", "bundle", "piece"), 0)
        for _ in range(1500):
            house = drawn_house(chance, chance.randint(15, 30))
            length = house.log()[0][4]
            before, facts = bills(house), house.facts()
            fact = drawn_fact(chance)
            if refused(house, fact):
                continue
            changed = changed_bills(before, bills(house))
            counted[fact[0]] += bool(changed)
            for customer, cycle in changed:
                if fact[0] == "bundle":
                    self.assertEqual((customer, cycle), fact[1][:2])
                elif fact[0] == "piece":
                    known = [each[3] for each in facts + house.facts() if each[:2] == fact[:2]]
                    self.assertTrue(any(begin // length <= cycle <= (begin + many - 1) // length and many
                                        for _, _, begin, many in known), fact)
                else:
                    self.assertLess(fact[1][1], (cycle + 1) * length)
        self.assertEqual(counted.pop("forward"), 0)
        self.assertGreater(min(counted.values()), 5, counted)

    def test_11_and_12_corrections_and_balances(self):
        chance = random.Random(SEED + 11)
        for _ in range(120):
            house = House(*drawn_arguments(chance))
            paid = dict.fromkeys(CUSTOMERS + ("zed",), 0)
            made = ()
            for fact in drawn_facts(chance, 20):
                house.tell(fact)
                if chance.random() < 0.4:
                    closed = house.close()
                    for customer in CUSTOMERS:
                        for cycle in range(closed + 1):
                            self.assertEqual(house.invoiced(customer, cycle), house.bill(customer, cycle)[3])
                        self.assertEqual(house.invoiced(customer, closed + 1), 0)
                    self.assertEqual(house.invoices()[:len(made)], made)
                    made = house.invoices()
                if chance.random() < 0.2:
                    customer, amount = chance.choice(CUSTOMERS), chance.randint(1, 200)
                    house.pay(customer, amount)
                    paid[customer] += amount
                self.assertEqual(house.invoices(), made)
                for customer, amount in paid.items():
                    self.assertEqual(house.balance(customer) + amount,
                                     sum(house.invoiced(customer, cycle) for cycle in range(25)))

    def test_13_parts_of_bills(self):
        for _, house in self.drawn(13, 200):
            for (customer, cycle), (net, parts, tax, total) in bills(house).items():
                groups = house.usage(customer, cycle)[0]
                self.assertEqual([part[0] for part in parts], sorted({group[0] for group in groups}))
                self.assertEqual(sum(part[1] for part in parts), net)
                self.assertEqual(net + tax, total)

    def test_14_carriers(self):
        for _, house in self.drawn(14, 200):
            owed = house.owed()
            self.assertEqual(sum(money for _, money in owed), 0)
            self.assertEqual(sorted(set(owed)), list(owed))
            if len(owed) <= 8:
                self.assertTrue(settles(owed, payments(owed)))

    def test_15_void_facts(self):
        chance = random.Random(SEED + 15)
        for _ in range(150):
            arguments = drawn_arguments(chance)
            facts = drawn_facts(chance, 20)
            house = built(facts, arguments)
            answers(house)
            kind, key, _, _ = chance.choice(facts)
            if refused(house, (kind, key, 1000, None)):
                continue
            other = built([fact for fact in facts if fact[:2] != (kind, key)], arguments)
            self.assertEqual(answers(house), answers(other))

    def test_19_houses_and_plans(self):
        for _, house in self.drawn(19, 100):
            plan = house.plan()
            for number in NUMBERS:
                for second in (0, 1, 4, 5, 991, 1000, DAY, 10 ** 8):
                    self.assertEqual(house.ring(number, second), ring(plan, number, second))

    def test_20_cut_pieces(self):
        chance = random.Random(SEED + 20)
        cut = 0
        while cut < 150:
            arguments = drawn_arguments(chance)
            facts = drawn_facts(chance, 25)
            house = built(facts, arguments)
            pieces = [fact for fact in house.facts() if fact[0] == "piece" and fact[3][3] > 1 and fact[3][2] < 10 ** 8]
            if not pieces:
                continue
            _, (call, place), version, (caller, dialled, begin, length) = chance.choice(pieces)
            at = chance.randint(1, min(length - 1, 10 ** 8 - begin))
            free = [number for number in range(1, 101)
                    if not any(fact[:2] == ("piece", (call, number)) for fact in facts)]
            other = built([fact for fact in facts if fact[:3] != ("piece", (call, place), version)], arguments)
            other.tell(("piece", (call, place), version, (caller, dialled, begin, at)))
            other.tell(("piece", (call, chance.choice(free)), 0, (caller, dialled, begin + at, length - at)))
            self.assertEqual((bills(other), other.owed()), (bills(house), house.owed()))
            for cycle in CYCLES:
                self.assertEqual(other.unheld(cycle), house.unheld(cycle))
                for customer in CUSTOMERS:
                    self.assertEqual(other.usage(customer, cycle), house.usage(customer, cycle))
            cut += 1


class LastingTest(unittest.TestCase):
    """What is passed and what is returned."""

    def test_lists_are_taken_as_tuples(self):
        chance = random.Random(SEED + 22)
        for _ in range(60):
            house = drawn_house(chance, 20)
            for form in (as_lists, mixed):
                rows = form(house.log())
                before = copy.deepcopy(rows)
                other = House(*rows[0][1:])
                for row in rows[1:]:
                    if row[0] == "tell":
                        other.tell(row[1])
                    elif row[0] == "close":
                        other.close()
                    else:
                        other.pay(*row[1:])
                self.assertEqual(rows, before)
                self.assertEqual(other, house)
                self.assertEqual(state(other), state(house))

    def test_what_was_returned_stays(self):
        chance = random.Random(SEED + 23)
        for _ in range(60):
            house = drawn_house(chance, 15)
            returned = state(house)
            before = copy.deepcopy(returned)
            for fact in drawn_facts(chance, 15):
                refused(house, fact)
            house.close()
            house.pay("ann", 5)
            self.assertEqual(returned, before)

    def test_questions_change_nothing(self):
        chance = random.Random(SEED + 24)
        for _ in range(60):
            house = drawn_house(chance, 20)
            first = state(house)
            self.assertEqual(state(house), first)

    def test_a_call_that_raises_changes_nothing(self):
        chance = random.Random(SEED + 25)
        refusals = 0
        for _ in range(100):
            house = drawn_house(chance, 15)
            before = state(house)
            for fact in [row[1] for row in house.log()[1:] if row[0] == "tell"]:
                other = fact[:3] + (chance.choice((None, drawn_key(chance, fact[0])[1])),)
                if other != fact:
                    with self.assertRaises(Clash) as caught:
                        house.tell(other)
                    self.assertIs(caught.exception.fact, other)
                    refusals += 1
                self.assertEqual(position(house.tell, (fact[:3] + ((),),)), 0)
                self.assertEqual(position(house.pay, ("ann", 0)), 1)
                self.assertEqual(position(house.usage, ("ann", -1)), 1)
                self.assertEqual(position(house.ring, ("4000", -1)), 1)
            self.assertEqual(state(house), before)
        self.assertGreater(refusals, 50)


if __name__ == "__main__":
    unittest.main()
