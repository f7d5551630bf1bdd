"""Accounts of carriers, and the fewest payments that settle them."""

from eachsecond.values import is_ascending, is_integer, is_rows, is_rows_of, is_word, need


def is_account(value):
    return is_rows(value, 2, 2) and is_word(value[0]) and is_integer(value[1])


def is_accounts(value):
    if not is_rows_of(value, 0, 8, is_account):
        return False
    return is_ascending([row[0] for row in value]) and sum([row[1] for row in value]) == 0


def is_payment(value):
    if not is_rows(value, 3, 3):
        return False
    payer, payee, money = value
    return is_word(payer) and is_word(payee) and payer != payee and is_integer(money) and money > 0


def best_counts(moneys):
    """For each set of positions (the sum of 1 << position), how often its sum is 0 while it is built up, at most."""
    sums = [0]
    for money in moneys:
        sums = sums + [each + money for each in sums]
    counts = [0]
    for chosen in range(1, len(sums)):
        before = max([counts[chosen - (1 << at)] for at in range(len(moneys)) if chosen >> at & 1])
        counts.append(before + 1 if sums[chosen] == 0 else before)
    return counts


def best_order(moneys):
    """The positions in a sequence in which the money up to a place adds up to 0 as often as possible."""
    counts = best_counts(moneys)
    chosen = len(counts) - 1
    order = []
    while chosen:
        places = [at for at in range(len(moneys)) if chosen >> at & 1]
        last = max(places, key=lambda at: counts[chosen - (1 << at)])
        order.append(last)
        chosen -= 1 << last
    return order


def payments(accounts):
    """The fewest payments (payer, payee, money), ascending, that settle the accounts.

    Each carrier settles with the next one what all up to it are owed together. So one payment fewer
    is needed wherever that is nothing; and no payments are fewer, for carriers that pay one another,
    and no other ones, have money that adds up to 0.
    """
    need(is_accounts(accounts), 0)
    order = [accounts[at] for at in best_order([row[1] for row in accounts])]
    found = []
    owed = 0
    for (carrier, money), (other, _) in zip(order, order[1:]):
        owed += money
        if owed > 0:
            found.append((other, carrier, owed))
        elif owed < 0:
            found.append((carrier, other, -owed))
    return tuple(sorted(found))


def settles(accounts, value):
    """Whether value is payments, ascending, that settle the accounts."""
    need(is_accounts(accounts), 0)
    if not isinstance(value, (list, tuple)) or not all([is_payment(row) for row in value]):
        return False
    left = {carrier: money for carrier, money in accounts}
    for payer, payee, money in value:
        if payer not in left or payee not in left:
            return False
        left[payer] += money
        left[payee] -= money
    return is_ascending([(row[0], row[1]) for row in value]) and not any(list(left.values()))
