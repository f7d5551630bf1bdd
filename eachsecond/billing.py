"""What the facts of a house make of each cycle: the seconds of each customer, and bills."""

from eachsecond.charges import Tally, charges_of, setup_of
from eachsecond.filling import Filling
from eachsecond.shares import shares_of, tax_of
from eachsecond.tables import Tables, plan_of

LAST_CYCLE = 200000
# So many cycles are kept at most; the closed ones, that are looked at again and again, are fewer.
MOST_KEPT = 1000


def touched(kind, key, values, length):
    """Pairs (first, last) of the cycles, of this length, that a fact changes which has, or had, one of the values."""
    if kind == "forward":
        return []
    if kind == "bundle":
        return [(key[1], key[1])]
    if kind != "piece":
        return [(key[1] // length, LAST_CYCLE)]
    pieces = [value for value in values if value is not None and value[3] > 0]
    return [(begin // length, (begin + many - 1) // length) for _, _, begin, many in pieces]


class Billing:
    """Usage and bills of a house, by its facts that count.

    tables: those of the facts. charged: by key the charges of pieces. tallies: those of cycles. All
    of them are kept as long as no fact changes them.
    """

    def __init__(self, week, blocks, length, rate, facts):
        self.week = week
        self.blocks = blocks
        self.length = length
        self.rate = rate
        self.known = facts
        self.tables = None
        self.charged = {}
        self.tallies = {}

    def plan(self):
        return plan_of(self.blocks, self.known)

    def lookup(self):
        """The tables of the facts."""
        if self.tables is None:
            self.tables = Tables(self.plan(), self.known)
        return self.tables

    def forget(self, kind, key, ranges):
        """A fact has changed, and with it the cycles from the first to the last of each range."""
        self.tables = None
        if kind == "piece":
            self.charged.pop(key, None)
        elif kind in ("hold", "uses", "tariff"):
            self.charged = {}
        for first, last in ranges:
            self.tallies = {cycle: tally for cycle, tally in self.tallies.items() if not first <= cycle <= last}

    def charges(self, key, piece):
        """The charges of the piece with this key."""
        if key not in self.charged:
            self.charged[key] = charges_of(self.lookup(), self.week, piece)
        return self.charged[key]

    def tally(self, cycle):
        """The tally of the cycle."""
        if cycle not in self.tallies:
            if len(self.tallies) >= MOST_KEPT:
                self.tallies = {}
            self.tallies[cycle] = self.counted(cycle)
        return self.tallies[cycle]

    def counted(self, cycle):
        tally = Tally(cycle * self.length, (cycle + 1) * self.length)
        tables = self.lookup()
        for key, piece in tables.pieces_in(tally.first, tally.last):
            tally.take(self.charges(key, piece))
            setup = setup_of(tables, piece) if key[1] == 0 and tally.first <= piece[2] else None
            if setup is not None:
                tally.set_up(setup[0], setup[1])
        return tally

    def usage(self, customer, cycle):
        return self.tally(cycle).usage(customer)

    def bill(self, customer, cycle):
        """The quadruple (net, parts, tax, total)."""
        groups, setups = self.usage(customer, cycle)
        net = setups + Filling(groups, self.lookup().bundles_for(customer, cycle)).bill()
        # A zone has a weight above 0 also where it costs nothing.
        weights = {}
        for zone, _, price, seconds in groups:
            weights[zone] = weights.get(zone, 1) + price * seconds
        parts = shares_of(net, list(weights.values()))
        tax = tax_of(net, self.rate)
        return (net, tuple(zip(weights, parts)), tax, net + tax)

    def totals(self, cycle):
        """By customer the totals of the bills for the cycle; who is not among them has no bill."""
        return {customer: self.bill(customer, cycle)[3] for customer in self.tally(cycle).groups}
