"""What the seconds of a call cost: tariffs with zones, and prices by zone and band."""

from eachsecond.values import (
    MOST_PRICE, is_ascending, is_digits, is_number, is_rows, is_rows_of, is_second, is_within, is_word, need,
)
from eachsecond.weeks import DAY, band_at, first_days, is_week, stretches

LONGEST_CALL = 10 ** 6
MOST_MONEY = 10 ** 12
MOST_ZONES = 12
MOST_PRICES = 40


def is_zone(value):
    """Whether value is a pair (prefix, zone) of a tariff."""
    return is_rows(value, 2, 2) and is_digits(value[0], 0, 3) and is_word(value[1])


def is_price(value):
    """Whether value is a triple (zone, band, price) of a tariff."""
    return is_rows(value, 3, 3) and is_word(value[0]) and is_word(value[1]) and is_within(value[2], 0, MOST_PRICE)


def is_tariff(value):
    """Whether value is a tariff."""
    if not is_rows(value, 3, 3):
        return False
    setup, zones, prices = value
    if not (is_within(setup, 0, MOST_PRICE) and is_rows_of(zones, 1, MOST_ZONES, is_zone)):
        return False
    prefixes = [row[0] for row in zones]
    if prefixes[0] != "" or not is_ascending(prefixes):
        return False
    return is_rows_of(prices, 0, MOST_PRICES, is_price) and is_ascending([(row[0], row[1]) for row in prices])


def zone_of(tariff, number):
    """`zone` of a tariff and a number that are as described."""
    found = None
    # Of the prefixes of one number a longer one stands behind a shorter one; so the last one is the longest.
    for prefix, name in tariff[1]:
        if number.startswith(prefix):
            found = name
    return found


def zone(tariff, number):
    """The zone of the number."""
    need(is_tariff(tariff), 0)
    need(is_number(number), 1)
    return zone_of(tariff, number)


def zone_prices(tariff, mine):
    """The prices of the zone by band; a band that has none costs 0."""
    return {band: worth for name, band, worth in tariff[2] if name == mine}


def prices_of(tariff, number):
    """The prices for the number by band."""
    return zone_prices(tariff, zone_of(tariff, number))


def price(tariff, week, number, second):
    """The price of the second for the number."""
    need(is_tariff(tariff), 0)
    need(is_week(week), 1)
    need(is_number(number), 2)
    need(is_second(second), 3)
    return prices_of(tariff, number).get(band_at(week, second), 0)


def cost_of(tariff, week, number, begin, length):
    """`cost` of a tariff, a week and a number that are as described, of any begin and length."""
    prices = prices_of(tariff, number)
    spans = stretches(week, begin, begin + length)
    return tariff[0] + sum([(end - start) * prices.get(band, 0) for start, end, band in spans])


def cost(tariff, week, number, begin, length):
    """The setup and the prices of so many seconds from begin on."""
    need(is_tariff(tariff), 0)
    need(is_week(week), 1)
    need(is_number(number), 2)
    need(is_second(begin), 3)
    need(is_within(length, 0, LONGEST_CALL), 4)
    return cost_of(tariff, week, number, begin, length)


def most_of(tariff, week, number, begin, money, cap):
    """`most` of a tariff, a week and a number that are as described, of any begin, money and cap from 0 on."""
    prices = prices_of(tariff, number)
    for start, end, band in stretches(week, begin, begin + cap):
        each = prices.get(band, 0)
        if each * (end - start) > money:
            return start - begin + money // each
        money -= each * (end - start)
    return cap


def most(tariff, week, number, begin, money, cap):
    """The greatest number of seconds up to cap, from begin on, that the money pays, the setup left aside."""
    need(is_tariff(tariff), 0)
    need(is_week(week), 1)
    need(is_number(number), 2)
    need(is_second(begin), 3)
    need(is_within(money, 0, MOST_MONEY), 4)
    need(is_within(cap, 0, LONGEST_CALL), 5)
    return most_of(tariff, week, number, begin, money, cap)


def edge_numbers(one, other):
    """Numbers of three digits, ascending, among them the least one of each set that all prefixes treat alike."""
    prefixes = [prefix for prefix, _ in list(one[1]) + list(other[1])]
    # Such a set begins where its own prefix begins, or right behind the end of a longer one.
    begins = [int((prefix + "000")[:3]) for prefix in prefixes]
    behind = [int((prefix + "999")[:3]) + 1 for prefix in prefixes]
    return [f"{edge:03d}" for edge in sorted(set(begins + behind)) if edge < 1000]


def parting_numbers(one, other):
    """By band the least number, not short, for which the tariffs' prices are not the same."""
    found = {}
    # No prefix is longer than three digits, so a longer number is priced as its first three digits are.
    for number in edge_numbers(one, other):
        here, there = prices_of(one, number), prices_of(other, number)
        for band in list(here) + list(there):
            if here.get(band, 0) != there.get(band, 0):
                found.setdefault(band, number)
    return found


def tariffs_part(one, other, week):
    """The least call (length, begin, number) that does not cost the same by both tariffs; None if there is none."""
    need(is_tariff(one), 0)
    need(is_tariff(other), 1)
    need(is_week(week), 2)
    if one[0] != other[0]:
        return (0, 0, "000")
    numbers = parting_numbers(one, other)
    # Each day that ever comes, also above the last second, came before: so one second is enough to part them.
    begins = [(count * DAY + start, band) for count, day in first_days(week) for start, band in day if band in numbers]
    if not begins:
        return None
    begin, band = min(begins)
    return (1, begin, numbers[band])
