"""The document's words on purses, followed second by second, to compare the program with."""

import reference


class SlowPurse:
    """A purse; granted seconds are paid one by one."""

    def __init__(self, week, tariff, money):
        self.week, self.tariff, self.first = week, tariff, money
        self.put_in = []
        self.calls = {}
        self.costs = []

    def put(self, amount):
        self.put_in.append(amount)

    def money(self):
        return self.first + sum(self.put_in) - sum(cost for _, cost in self.costs)

    def cost(self, call, length):
        number, begin, _ = self.calls[call]
        return reference.cost(self.tariff, self.week, number, begin, length)

    def held(self):
        return sum(self.cost(call, self.calls[call][2]) for call in self.calls)

    def free(self):
        return self.money() - self.held()

    def begin(self, call, number, second, cap):
        """The seconds granted; the name of an error, if there is one."""
        if call in self.calls or call in [ended for ended, _ in self.costs]:
            return "TakenCall"
        left = self.free() - self.tariff[0]
        if left < 0 or left < reference.price(self.tariff, self.week, number, second):
            return "NoMoney"
        granted = reference.most(self.tariff, self.week, number, second, left, cap)
        self.calls[call] = (number, second, granted)
        return granted

    def more(self, call, cap):
        if call not in self.calls:
            return "NoCall"
        number, begin, granted = self.calls[call]
        further = reference.most(self.tariff, self.week, number, begin + granted, self.free(),
                                 min(cap, 10 ** 6 - granted))
        self.calls[call] = (number, begin, granted + further)
        return further

    def end(self, call, length):
        if call not in self.calls:
            return "NoCall"
        if length > self.calls[call][2]:
            return "NotNow"
        cost = self.cost(call, length)
        del self.calls[call]
        self.costs.append((call, cost))
        return cost

    def running(self):
        return tuple((call, self.calls[call][2], self.cost(call, self.calls[call][2])) for call in sorted(self.calls))

    def ended(self):
        return tuple(self.costs)
