"""Purses: money that is paid ahead, and held for calls that run."""

from eachsecond.errors import NoCall, NoMoney, NotNow, TakenCall
from eachsecond.tariffs import LONGEST_CALL, MOST_MONEY, cost_of, is_tariff, most_of
from eachsecond.values import frozen, is_number, is_second, is_within, is_word, need
from eachsecond.weeks import is_week


class Purse:
    """A purse.

    inside: the money. kept: what of it is held. calls: by call that runs (number, begin, granted,
    held). paid: by call that has ended its cost, in the sequence in which they ended.
    """

    def __init__(self, week, tariff, money):
        need(is_week(week), 0)
        need(is_tariff(tariff), 1)
        need(is_within(money, 0, MOST_MONEY), 2)
        self.week = frozen(week)
        self.tariff = frozen(tariff)
        self.inside = money
        self.kept = 0
        self.calls = {}
        self.paid = {}

    def put(self, amount):
        """Put money in."""
        need(is_within(amount, 1, MOST_MONEY), 0)
        self.inside += amount

    def money(self):
        """What is in the purse."""
        return self.inside

    def held(self):
        """What is held for running calls."""
        return self.kept

    def begin(self, call, number, second, cap):
        """Begin a call, and return how many seconds are granted; TakenCall, or NoMoney for the first second."""
        need(is_word(call), 0)
        need(is_number(number), 1)
        need(is_second(second), 2)
        need(is_within(cap, 1, LONGEST_CALL), 3)
        if call in self.calls or call in self.paid:
            raise TakenCall(call)
        left = self.inside - self.kept - self.tariff[0]
        # The first second is not paid either if not even the setup is.
        granted = most_of(self.tariff, self.week, number, second, left, cap) if left >= 0 else 0
        if granted == 0:
            raise NoMoney()
        self.hold(call, number, second, granted)
        return granted

    def more(self, call, cap):
        """Grant further seconds to a call that runs, and return how many."""
        need(is_word(call), 0)
        need(is_within(cap, 1, LONGEST_CALL), 1)
        if call not in self.calls:
            raise NoCall(call)
        number, second, granted, _ = self.calls[call]
        left = self.inside - self.kept
        cap = min(cap, LONGEST_CALL - granted)
        further = most_of(self.tariff, self.week, number, second + granted, left, cap)
        self.release(call)
        self.hold(call, number, second, granted + further)
        return further

    def end(self, call, length):
        """End a call that runs, and return its cost; NotNow if more seconds than granted are told."""
        need(is_word(call), 0)
        need(is_within(length, 0, LONGEST_CALL), 1)
        if call not in self.calls:
            raise NoCall(call)
        number, second, granted, _ = self.calls[call]
        if length > granted:
            raise NotNow()
        cost = cost_of(self.tariff, self.week, number, second, length)
        self.release(call)
        self.paid[call] = cost
        self.inside -= cost
        return cost

    def hold(self, call, number, second, granted):
        """Let a call run with so many seconds granted, and hold what they cost, the setup included."""
        held = cost_of(self.tariff, self.week, number, second, granted)
        self.calls[call] = (number, second, granted, held)
        self.kept += held

    def release(self, call):
        """Let a call run no more, and hold nothing for it."""
        self.kept -= self.calls[call][3]
        del self.calls[call]

    def running(self):
        """The triples (call, granted, held), ascending, of the calls that run."""
        return tuple([(call,) + self.calls[call][2:] for call in sorted(self.calls)])

    def ended(self):
        """The pairs (call, cost), in the sequence in which the calls ended."""
        return tuple(self.paid.items())

    def copy(self):
        """The same purse, that changes independently."""
        other = Purse(self.week, self.tariff, 0)
        other.inside = self.inside
        other.kept = self.kept
        other.calls = dict(self.calls)
        other.paid = dict(self.paid)
        return other

    def __eq__(self, other):
        return isinstance(other, Purse) and self.state() == other.state()

    def state(self):
        """All that tells one purse from another."""
        return (self.week, self.tariff, self.inside, self.calls, self.ended())
