"""Which band a second has: weeks of days, and feasts."""

from eachsecond.values import (
    LAST_SECOND, is_ascending, is_rows, is_rows_of, is_second, is_within, is_word, need,
)

DAY = 86400
FEAST = 7


def is_start(value):
    """Whether value is a pair (start, band) of a day."""
    return is_rows(value, 2, 2) and is_within(value[0], 0, DAY - 1) and is_word(value[1])


def is_day(value):
    if not is_rows_of(value, 1, 8, is_start):
        return False
    starts = [pair[0] for pair in value]
    return starts[0] == 0 and is_ascending(starts)


def is_feast(value):
    return is_within(value, 0, 1000)


def is_week(value):
    """Whether value is a week."""
    if not is_rows(value, 2, 2):
        return False
    days, feasts = value
    if not is_rows_of(days, 8, 8, is_day):
        return False
    return is_rows_of(feasts, 0, 20, is_feast) and is_ascending(feasts)


def day_of(week, number):
    """The day that the day with this number has."""
    days, feasts = week
    return days[FEAST] if number in feasts else days[number % 7]


def first_days(week):
    """Pairs (number, day): the first day with each of the week's days, but for one that never comes."""
    days, feasts = week
    found = [(feasts[0], days[FEAST])] if feasts else []
    for kind in range(7):
        number = kind
        while number in feasts:
            number += 7
        found.append((number, days[kind]))
    return found


def band_at(week, second):
    """`band` of a week that is as described, also above the last second."""
    found = None
    for start, name in day_of(week, second // DAY):
        if start <= second % DAY:
            found = name
    return found


def band(week, second):
    """The band of the second."""
    need(is_week(week), 0)
    need(is_second(second), 1)
    return band_at(week, second)


def next_change(week, second):
    """The first second above this one with another band; None if there is none up to the last second."""
    need(is_week(week), 0)
    need(is_second(second), 1)
    now = band_at(week, second)
    for number in range(second // DAY, LAST_SECOND // DAY + 1):
        for start, name in day_of(week, number):
            begin = number * DAY + start
            if begin > second and name != now:
                return begin if begin <= LAST_SECOND else None
    return None


def stretches(week, first, last):
    """Triples (begin, end, band), ascending, of the seconds from first on and below last, however great."""
    found = []
    for number in range(first // DAY, last // DAY + 1):
        day = day_of(week, number)
        ends = [start for start, _ in day[1:]] + [DAY]
        for (start, name), end in zip(day, ends):
            low = max(first, number * DAY + start)
            high = min(last, number * DAY + end)
            if low < high:
                found.append((low, high, name))
    return found


def seconds_in(week, first, last, band):
    """The number of seconds from first on, and below last, that have the band."""
    need(is_week(week), 0)
    need(is_second(first), 1)
    need(is_second(last), 2)
    need(is_word(band), 3)
    return sum([end - begin for begin, end, name in stretches(week, first, last) if name == band])
