"""Closed cycles: the invoices that were made for them, and what was paid."""


class Book:
    """Invoices and payments.

    made: the invoices. sums: for each closed cycle, by customer, what was invoiced and corrected so
    far. due: by customer the balance. doubted: the closed cycles whose bills may have changed since.
    """

    def __init__(self):
        self.made = []
        self.sums = []
        self.due = {}
        self.doubted = {}

    def doubt(self, ranges):
        """The bills of cycles, from the first to the last of each range, may have changed."""
        for first, last in ranges:
            for cycle in range(first, min(last + 1, len(self.sums))):
                self.doubted[cycle] = True

    def close(self, billing):
        """Close the next cycle, and return its number."""
        cycle = len(self.sums)
        self.sums.append({})
        news = {}
        for each in sorted(self.doubted) + [cycle]:
            for customer, difference in self.differences(each, billing.totals(each)):
                news.setdefault(customer, []).append((each, difference))
        self.doubted = {}
        for customer in sorted(news):
            self.make(customer, cycle, news[customer])
        return cycle

    def differences(self, cycle, totals):
        """Pairs (customer, difference) of the totals of now and what was invoiced so far, if they differ."""
        sums = self.sums[cycle]
        pairs = [(customer, totals.get(customer, 0) - sums.get(customer, 0)) for customer in {**sums, **totals}]
        return [pair for pair in pairs if pair[1] != 0]

    def make(self, customer, closed, news):
        """Make an invoice of news: pairs (cycle, difference), ascending, perhaps one for the closed cycle itself."""
        for cycle, difference in news:
            sums = self.sums[cycle]
            sums[customer] = sums.get(customer, 0) + difference
            self.due[customer] = self.due.get(customer, 0) + difference
        corrections = tuple([pair for pair in news if pair[0] != closed])
        self.made.append((customer, closed, self.invoiced(customer, closed), corrections))

    def invoiced(self, customer, cycle):
        return self.sums[cycle].get(customer, 0) if cycle < len(self.sums) else 0

    def pay(self, customer, amount):
        self.due[customer] = self.due.get(customer, 0) - amount

    def balance(self, customer):
        return self.due.get(customer, 0)

    def copy(self):
        """The same book, that changes independently."""
        other = Book()
        other.made = list(self.made)
        other.sums = [dict(each) for each in self.sums]
        other.due = dict(self.due)
        other.doubted = dict(self.doubted)
        return other
