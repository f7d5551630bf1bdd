"""Shares of a whole by weights, and the tax of an amount."""

from eachsecond.values import is_rows_of, is_within, need

MOST_WHOLE = 10 ** 15


def is_weight(value):
    return is_within(value, 0, MOST_WHOLE)


def is_weights(value):
    return is_rows_of(value, 1, 40, is_weight) and sum(value) > 0


def shares_of(whole, weights):
    """`shares` of a whole and weights of any size and number."""
    total = sum(weights)
    parts = [whole * weight // total for weight in weights]
    rests = [whole * weight % total for weight in weights]
    # Sorting keeps the sequence of what has the same key, so of equal rests the first one is served first.
    places = sorted(range(len(rests)), key=lambda at: -rests[at])
    for at in places[:whole - sum(parts)]:
        parts[at] += 1
    return tuple(parts)


def shares(whole, weights):
    """The parts of the whole by weights, in integers that add up to it."""
    need(is_within(whole, 0, MOST_WHOLE), 0)
    need(is_weights(weights), 1)
    return shares_of(whole, weights)


def tax_of(amount, rate):
    """`tax` of an amount of any size from 0 on."""
    return (amount * rate + 500) // 1000


def tax(amount, rate):
    """The amount times the rate in thousandths, to the nearest integer, halves upward."""
    need(is_within(amount, 0, MOST_WHOLE), 0)
    need(is_within(rate, 0, 1000), 1)
    return tax_of(amount, rate)
