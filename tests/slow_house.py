"""The document's words on houses, followed second by second, to compare the program with."""

from collections import Counter

import reference
from eachsecond.bundles import paper, uses


def is_fact(fact):
    """Whether it is a fact, as the document says it."""
    if not reference.rows(fact, 4, 4) or type(fact[0]) is not str:
        return False
    kind, key, version, value = fact
    if not (reference.integer(version, 0, 1000) and type(key) in (list, tuple)):
        return False
    keys = {
        "hold": (lambda part: reference.number(part) and len(part) > 2, reference.second),
        "forward": (reference.number, reference.second),
        "uses": (reference.word, reference.second),
        "tariff": (reference.word, reference.second),
        "bundle": (reference.word, lambda part: reference.integer(part, 0, 1000), reference.word),
        "piece": (reference.word, lambda part: reference.integer(part, 0, 100)),
    }
    if kind not in keys or len(keys[kind]) != len(key):
        return False
    return all(good(part) for good, part in zip(keys[kind], key)) and (value is None or is_value(kind, value))


def is_value(kind, value):
    if kind == "uses":
        return reference.word(value)
    if kind == "tariff":
        return reference.tariff(value)
    if kind == "hold":
        return reference.rows(value, 2, 2) and all(part is None or reference.word(part) for part in value)
    if kind == "forward":
        return reference.rows(value, 1, 1) and (value[0] is None or reference.number(value[0]))
    if kind == "bundle":
        return reference.rows(value, 3, 3) and reference.bundles([["a"] + list(value)])
    return (reference.rows(value, 4, 4) and reference.number(value[0]) and len(value[0]) > 2
            and reference.number(value[1]) and reference.second(value[2]) and reference.integer(value[3], 0, 10 ** 6))


def counting(told):
    """The facts that count of all that were told, in whatever sequence."""
    greatest = {}
    for kind, key, version, _ in told:
        greatest[(kind, key)] = max(version, greatest.get((kind, key), -1))
    found = {fact for fact in told if fact[2] == greatest[(fact[0], fact[1])] and fact[3] is not None}
    return tuple(sorted(found, key=lambda fact: (fact[0], fact[1])))


def of_kind(facts, kind):
    return [(key, value) for each, key, _, value in facts if each == kind]


def plan(blocks, facts):
    holds = tuple(key + value for key, value in of_kind(facts, "hold"))
    forwards = tuple(key + value for key, value in of_kind(facts, "forward"))
    return (blocks, holds, forwards)


def latest(facts, kind, name, second):
    """The value of the fact with this name and the greatest second not above; None if there is none."""
    fitting = [(key[1], value) for key, value in of_kind(facts, kind) if key[0] == name and key[1] <= second]
    return max(fitting, key=lambda pair: pair[0])[1] if fitting else None


def tariff(facts, customer, second):
    name = latest(facts, "uses", customer, second)
    return None if name is None else latest(facts, "tariff", name, second)


def least_bill(groups, bundles):
    """The least bill, with a use that makes it, and a paper that shows that none makes less."""
    use, worths = uses(groups, bundles), paper(groups, bundles)
    assert reference.is_use(groups, bundles, use)
    assert reference.paper_holds(groups, bundles, reference.bill(groups, use), worths)
    return reference.bill(groups, use)


class SlowHouse:
    """A house, looked at anew for each answer."""

    def __init__(self, week, blocks, rates, cycle, rate):
        self.week, self.blocks, self.rates, self.cycle, self.rate = week, blocks, rates, cycle, rate
        self.told = []
        self.made = []
        self.closed = 0
        self.corrected = Counter()
        self.payments = Counter()

    def tell(self, fact):
        self.told.append(fact)
        self.seconds = None

    def facts(self):
        return counting(self.told)

    def plan(self):
        return plan(self.blocks, self.facts())

    def ring(self, number, second):
        return reference.ring(self.plan(), number, second)

    def charged(self):
        """Each second of each piece: (cycle, customer, zone, band, price, setup)."""
        if getattr(self, "seconds", None) is None:
            facts = self.facts()
            self.seconds = [row for key, value in of_kind(facts, "piece") for row in self.of_piece(facts, key, value)]
        return self.seconds

    def of_piece(self, facts, key, value):
        caller, dialled, begin, length = value
        held = plan(self.blocks, facts)
        for second in range(begin, begin + length):
            band = reference.band(self.week, second)
            holder = reference.holder(held, caller, second)
            if holder is None:
                yield (second // self.cycle, None, None, band, 0, 0)
                continue
            mine = tariff(facts, holder[0], second)
            if mine is None:
                yield (second // self.cycle, holder[0], "none", band, 0, 0)
            else:
                setup = mine[0] if key[1] == 0 and second == begin else 0
                yield (second // self.cycle, holder[0], reference.zone(mine, dialled), band,
                       reference.price_in(mine, dialled, band), setup)

    def usage(self, customer, cycle):
        mine = [row for row in self.charged() if row[:2] == (cycle, customer)]
        groups = Counter(row[2:5] for row in mine)
        return tuple(sorted(group + (many,) for group, many in groups.items())), sum(row[5] for row in mine)

    def unheld(self, cycle):
        return sum(row[:2] == (cycle, None) for row in self.charged())

    def bill(self, customer, cycle):
        groups, setups = self.usage(customer, cycle)
        bundles = [(key[2],) + value for key, value in of_kind(self.facts(), "bundle") if key[:2] == (customer, cycle)]
        net = setups + least_bill(groups, tuple(sorted(bundles)[:8]))
        zones = sorted({group[0] for group in groups})
        weights = [1 + sum(group[2] * group[3] for group in groups if group[0] == zone) for zone in zones]
        parts = tuple(zip(zones, reference.shares(net, weights))) if zones else ()
        tax = reference.tax(net, self.rate)
        return (net, parts, tax, net + tax)

    def customers(self):
        facts = self.facts()
        found = {value[0] for _, value in of_kind(facts, "hold") if value[0] is not None}
        found |= {key[0] for key, _ in of_kind(facts, "uses") + of_kind(facts, "bundle")}
        return tuple(sorted(found))

    def close(self):
        cycle = self.closed
        self.closed += 1
        for customer in sorted(set(self.customers()) | {invoice[0] for invoice in self.made}):
            corrections = []
            for before in range(cycle):
                difference = self.bill(customer, before)[3] - self.invoiced(customer, before)
                if difference != 0:
                    corrections.append((before, difference))
                    self.corrected[(customer, before)] += difference
            total = self.bill(customer, cycle)[3]
            if total != 0 or corrections:
                self.made.append((customer, cycle, total, tuple(corrections)))
                self.corrected[(customer, cycle)] += total
        return cycle

    def invoices(self):
        return tuple(self.made)

    def invoiced(self, customer, cycle):
        return self.corrected[(customer, cycle)]

    def pay(self, customer, amount):
        self.payments[customer] += amount

    def balance(self, customer):
        mine = [invoice for invoice in self.made if invoice[0] == customer]
        return sum(total + sum(pair[1] for pair in pairs) for _, _, total, pairs in mine) - self.payments[customer]

    def owed(self):
        facts = self.facts()
        held = plan(self.blocks, facts)
        money = Counter()
        for carrier in ([block[2] for block in self.blocks] + [hold[3] for hold in held[1] if hold[3] is not None]
                        + [part for rate in self.rates for part in rate[:2]]):
            money[carrier] += 0
        pieces = of_kind(facts, "piece")
        for (call, _), (caller, dialled, begin, length) in pieces:
            first = min(value[2] for key, value in pieces if key[0] == call)
            place = reference.ring(held, dialled, first)
            for second in range(begin, begin + length):
                owner = reference.holder(held, caller, second)
                if owner is not None and place[0] == "rings" and place[3] != owner[1]:
                    rate = [each for each in self.rates if each[:2] == (owner[1], place[3])]
                    money[owner[1]] -= rate[0][2] if rate else 0
                    money[place[3]] += rate[0][2] if rate else 0
        return tuple(sorted(money.items()))
