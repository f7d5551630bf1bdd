"""Houses: facts told in any sequence, and what follows from those that count."""

from eachsecond.billing import LAST_CYCLE, Billing, touched
from eachsecond.debts import owed_of
from eachsecond.errors import BadRow, Clash, NotNow, SecondError
from eachsecond.facts import Facts, is_fact
from eachsecond.invoices import Book
from eachsecond.plans import is_blocks, ring_at
from eachsecond.tariffs import MOST_MONEY
from eachsecond.values import (
    MOST_PRICE, frozen, is_ascending, is_number, is_rows, is_rows_of, is_second, is_within, is_word, need,
)
from eachsecond.weeks import is_week

MOST_CLOSED = 200


def is_rate(value):
    """Whether value is (payer, payee, price)."""
    return is_rows(value, 3, 3) and is_word(value[0]) and is_word(value[1]) and is_within(value[2], 0, MOST_PRICE)


def is_rates(value):
    return is_rows_of(value, 0, 20, is_rate) and is_ascending([(row[0], row[1]) for row in value])


def is_cycle(value):
    return is_within(value, 0, LAST_CYCLE)


class House:
    """A house; its first row in the log keeps what it was made with."""

    def __init__(self, week, blocks, rates, cycle, rate):
        need(is_week(week), 0)
        need(is_blocks(blocks), 1)
        need(is_rates(rates), 2)
        need(is_within(cycle, 1000, 10 ** 7), 3)
        need(is_within(rate, 0, 1000), 4)
        self.known = Facts()
        self.billing = Billing(frozen(week), frozen(blocks), cycle, rate, self.known)
        self.book = Book()
        self.rates = frozen(rates)
        self.rows = [("house", frozen(week), frozen(blocks), self.rates, cycle, rate)]

    def tell(self, fact):
        """Take a fact: Clash if one with another value was told, NotNow if there are too many others."""
        need(is_fact(fact), 0)
        kept = frozen(fact)
        if self.known.clashes(kept):
            raise Clash(fact)
        if self.known.is_full() and not self.known.has(kept):
            raise NotNow()
        kind, key, _, _ = kept
        before = self.known.counting(kind, key)
        self.known.keep(kept)
        now = self.known.counting(kind, key)
        if now != before:
            ranges = touched(kind, key, (before, now), self.billing.length)
            self.billing.forget(kind, key, ranges)
            self.book.doubt(ranges)
        self.rows.append(("tell", kept))

    def facts(self):
        """The facts that count, ascending by kind and key."""
        return self.known.listing()

    def plan(self):
        """The plan of the blocks and of the facts."""
        return self.billing.plan()

    def ring(self, number, second):
        """Where the number rings at the second, as `ring` of a plan tells."""
        need(is_number(number), 0)
        need(is_second(second), 1)
        return ring_at(self.plan(), number, second)

    def usage(self, customer, cycle):
        """The pair (groups, setups) of the seconds of the cycle that the customer is charged."""
        need(is_word(customer), 0)
        need(is_cycle(cycle), 1)
        return self.billing.usage(customer, cycle)

    def unheld(self, cycle):
        """The number of seconds of pieces in the cycle that nobody is charged."""
        need(is_cycle(cycle), 0)
        return self.billing.tally(cycle).lone

    def bill(self, customer, cycle):
        """The quadruple (net, parts, tax, total)."""
        need(is_word(customer), 0)
        need(is_cycle(cycle), 1)
        return self.billing.bill(customer, cycle)

    def customers(self):
        """All customers of facts, ascending."""
        holders = [value[0] for _, value in self.known.listed("hold") if value[0] is not None]
        others = [key[0] for kind in ("uses", "bundle") for key, _ in self.known.listed(kind)]
        return tuple(sorted(set(holders + others)))

    def close(self):
        """Close the next cycle, make the invoices, and return its number; NotNow if there are too many."""
        if len(self.book.sums) >= MOST_CLOSED:
            raise NotNow()
        cycle = self.book.close(self.billing)
        self.rows.append(("close",))
        return cycle

    def invoices(self):
        """All invoices (customer, cycle, total, corrections), in the sequence in which they were made."""
        return tuple(self.book.made)

    def invoiced(self, customer, cycle):
        """What was invoiced and corrected so far for a cycle."""
        need(is_word(customer), 0)
        need(is_cycle(cycle), 1)
        return self.book.invoiced(customer, cycle)

    def pay(self, customer, amount):
        """Take a payment."""
        need(is_word(customer), 0)
        need(is_within(amount, 1, MOST_MONEY), 1)
        self.book.pay(customer, amount)
        self.rows.append(("pay", customer, amount))

    def balance(self, customer):
        """What was invoiced and corrected, less what was paid."""
        need(is_word(customer), 0)
        return self.book.balance(customer)

    def owed(self):
        """The pairs (carrier, money), ascending: what a carrier is owed less what it owes."""
        return owed_of(self.plan(), self.billing.lookup(), self.rates)

    def log(self):
        """The rows of the house: what it was made with, and each call that changed it."""
        return tuple(self.rows)

    def copy(self):
        """The same house, that changes independently."""
        _, week, blocks, rates, cycle, rate = self.rows[0]
        other = House(week, blocks, rates, cycle, rate)
        other.known = self.known.copy()
        other.billing = Billing(week, blocks, cycle, rate, other.known)
        other.book = self.book.copy()
        other.rows = list(self.rows)
        return other

    def __eq__(self, other):
        return isinstance(other, House) and self.rows == other.rows


def begun(row):
    """The house of a first row."""
    need(is_rows(row, 6, 6) and row[0] == "house", 0)
    _, week, blocks, rates, cycle, rate = row
    return House(week, blocks, rates, cycle, rate)


def follow(house, row):
    """Do again what a further row tells."""
    if is_rows(row, 2, 2) and row[0] == "tell":
        house.tell(row[1])
    elif is_rows(row, 1, 1) and row[0] == "close":
        house.close()
    else:
        need(is_rows(row, 3, 3) and row[0] == "pay", 0)
        house.pay(row[1], row[2])


def rebuilt(rows):
    """The house with these rows as its log; BadRow tells the first one that cannot follow."""
    if not isinstance(rows, (list, tuple)) or len(rows) == 0:
        raise BadRow(0)
    at = 0
    try:
        house = begun(rows[0])
        for at in range(1, len(rows)):
            follow(house, rows[at])
    except SecondError:
        raise BadRow(at) from None
    return house
