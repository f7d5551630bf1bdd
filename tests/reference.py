"""The document's words, followed one by one and slowly, to compare the program with."""

import itertools
from fractions import Fraction

DIGITS = "0123456789"
LETTERS = "abcdefghijklmnopqrstuvwxyz"


def order(number):
    return (len(number), number)


def integer(value, low, high):
    return type(value) is int and low <= value <= high


def made_of(value, signs, low, high):
    return type(value) is str and low <= len(value) <= high and set(value) <= set(signs)


def word(value):
    return made_of(value, LETTERS, 1, 8)


def number(value):
    return made_of(value, DIGITS, 2, 8)


def second(value):
    return integer(value, 0, 10 ** 8)


def rows(value, low, high):
    return type(value) in (list, tuple) and low <= len(value) <= high


def block(value):
    return (rows(value, 3, 3) and integer(value[1], 3, 8)
            and made_of(value[0], DIGITS, 1, value[1] - 1) and word(value[2]))


def hold(value):
    return (rows(value, 4, 4) and number(value[0]) and len(value[0]) > 2 and second(value[1])
            and all(part is None or word(part) for part in value[2:]))


def forward(value):
    return (rows(value, 3, 3) and number(value[0]) and second(value[1])
            and (value[2] is None or number(value[2])))


def strictly_ascending(keys):
    return all(keys[i] < keys[j] for i in range(len(keys)) for j in range(i + 1, len(keys)))


def plan(value):
    if not rows(value, 3, 3):
        return False
    blocks, holds, forwards = value
    if not (rows(blocks, 0, 8) and all(block(each) for each in blocks)):
        return False
    if not strictly_ascending([tuple(each) for each in blocks]):
        return False
    for i, one in enumerate(blocks):
        if any(one[0].startswith(other[0]) for j, other in enumerate(blocks) if i != j):
            return False
    for part, is_row in ((holds, hold), (forwards, forward)):
        if not (rows(part, 0, 400) and all(is_row(each) for each in part)):
            return False
        if list(part) != sorted(part, key=lambda row: (row[0], row[1])):
            return False
        if len({(row[0], row[1]) for row in part}) != len(part):
            return False
    return True


def at_second(of_rows, which, when):
    """The row of the number with the greatest second not above when; None if there is none."""
    fitting = [row for row in of_rows if row[0] == which and row[1] <= when]
    return max(fitting, key=lambda row: row[1]) if fitting else None


def holder(a_plan, which, when):
    mine = [each for each in a_plan[0] if len(which) == each[1] and which.startswith(each[0])]
    row = at_second(a_plan[1], which, when)
    if not mine or row is None or row[2] is None:
        return None
    return (row[2], mine[0][2] if row[3] is None else row[3])


def ring(a_plan, which, when):
    come_to = []
    while True:
        if which in come_to:
            return ("circle", which)
        come_to.append(which)
        row = at_second(a_plan[2], which, when)
        if row is None or row[2] is None:
            break
        which = row[2]
    held = holder(a_plan, which, when)
    return ("nowhere", which) if held is None else ("rings", which) + held


def rings(a_plan, when, numbers):
    """The rings of all numbers at one second; for plans too long to look up the rows anew for each number."""
    targets = {number: to for number, since, to in a_plan[2] if since <= when}
    holders = {number: holder(a_plan, number, when) for number in {each[0] for each in a_plan[1]}}
    found = {}
    for number in numbers:
        come_to, which = set(), number
        while which not in come_to and targets.get(which) is not None:
            come_to.add(which)
            which = targets[which]
        held = holders.get(which)
        if which in come_to:
            found[number] = ("circle", which)
        else:
            found[number] = ("nowhere", which) if held is None else ("rings", which) + held
    return found


def first_circle(a_plan, seconds, numbers):
    for when in sorted(seconds):
        for which in sorted(numbers, key=order):
            if ring(a_plan, which, when)[0] == "circle":
                return (when, which)
    return None


def plans_part(one, other, seconds, numbers):
    for when in sorted(seconds):
        for which in sorted(numbers, key=order):
            if ring(one, which, when) != ring(other, which, when):
                return (when, which)
    return None


def day(value):
    if not rows(value, 1, 8):
        return False
    if not all(rows(pair, 2, 2) and integer(pair[0], 0, 86399) and word(pair[1]) for pair in value):
        return False
    return value[0][0] == 0 and strictly_ascending([pair[0] for pair in value])


def week(value):
    if not (rows(value, 2, 2) and rows(value[0], 8, 8) and all(day(each) for each in value[0])):
        return False
    feasts = value[1]
    return (rows(feasts, 0, 20) and all(integer(each, 0, 1000) for each in feasts)
            and strictly_ascending(feasts))


def band(a_week, when):
    count, rest = divmod(when, 86400)
    mine = a_week[0][7] if count in a_week[1] else a_week[0][count % 7]
    return [pair[1] for pair in mine if pair[0] <= rest][-1]


def tariff(value):
    if not (rows(value, 3, 3) and integer(value[0], 0, 10 ** 6) and rows(value[1], 1, 12) and rows(value[2], 0, 40)):
        return False
    for row in value[1]:
        if not (rows(row, 2, 2) and made_of(row[0], DIGITS, 0, 3) and word(row[1])):
            return False
    for row in value[2]:
        if not (rows(row, 3, 3) and word(row[0]) and word(row[1]) and integer(row[2], 0, 10 ** 6)):
            return False
    if value[1][0][0] != "" or not strictly_ascending([row[0] for row in value[1]]):
        return False
    keys = [(row[0], row[1]) for row in value[2]]
    return len(set(keys)) == len(keys) and strictly_ascending([tuple(row) for row in value[2]])


def zone(a_tariff, which):
    return max((row for row in a_tariff[1] if which.startswith(row[0])), key=lambda row: len(row[0]))[1]


def price_in(a_tariff, which, a_band):
    fitting = [row[2] for row in a_tariff[2] if (row[0], row[1]) == (zone(a_tariff, which), a_band)]
    return fitting[0] if fitting else 0


def price(a_tariff, a_week, which, when):
    return price_in(a_tariff, which, band(a_week, when))


def second_prices(a_tariff, a_week, which, begin, length):
    """The prices of the seconds, one by one."""
    by_band = {}
    for when in range(begin, begin + length):
        a_band = band(a_week, when)
        if a_band not in by_band:
            by_band[a_band] = price_in(a_tariff, which, a_band)
        yield by_band[a_band]


def cost(a_tariff, a_week, which, begin, length):
    return a_tariff[0] + sum(second_prices(a_tariff, a_week, which, begin, length))


def most(a_tariff, a_week, which, begin, money, cap):
    count = 0
    for each in second_prices(a_tariff, a_week, which, begin, cap):
        money -= each
        if money < 0:
            break
        count += 1
    return count


def starts(a_week):
    """The seconds at which a pair of a day begins, up to the last second; between them no band changes."""
    for number in range(10 ** 8 // 86400 + 1):
        for start, _ in a_week[0][7] if number in a_week[1] else a_week[0][number % 7]:
            if number * 86400 + start <= 10 ** 8:
                yield number * 86400 + start


def tariffs_part(one, other, a_week):
    """Of calls of no second and of one; the numbers of three digits, which are the least ones, stand for all."""
    if one[0] != other[0]:
        return (0, 0, "000")
    zones = [(zone(one, f"{k:03d}"), zone(other, f"{k:03d}")) for k in range(1000)]
    firsts = [f"{k:03d}" for k in range(1000) if zones[k] not in zones[:k]]
    alike = set()
    for begin in starts(a_week):
        a_band = band(a_week, begin)
        if a_band in alike:
            continue
        for which in firsts:
            if price_in(one, which, a_band) != price_in(other, which, a_band):
                return (1, begin, which)
        alike.add(a_band)
    return None


def groups(value):
    if not rows(value, 0, 4000):
        return False
    for row in value:
        if not (rows(row, 4, 4) and word(row[0]) and word(row[1])):
            return False
        if not (integer(row[2], 0, 10 ** 6) and integer(row[3], 1, 10 ** 9)):
            return False
    return strictly_ascending([tuple(row[:3]) for row in value])


def bundles(value):
    if not rows(value, 0, 8):
        return False
    for row in value:
        if not (rows(row, 4, 4) and word(row[0]) and integer(row[1], 0, 10 ** 9)):
            return False
        for names in row[2:]:
            if not (rows(names, 0, 12) and all(word(name) for name in names) and strictly_ascending(names)):
                return False
    return strictly_ascending([row[0] for row in value])


def covers(bundle, group):
    return group[0] in bundle[2] and group[1] in bundle[3]


def is_use(all_groups, all_bundles, use):
    if not all(rows(row, 3, 3) and all(type(part) is int for part in row) for row in use):
        return False
    keys = [(row[0], row[1]) for row in use]
    if not (all(row[2] >= 1 for row in use) and keys == sorted(set(keys))):
        return False
    if not all(0 <= row[0] < len(all_groups) and 0 <= row[1] < len(all_bundles) for row in use):
        return False
    if not all(covers(all_bundles[row[1]], all_groups[row[0]]) for row in use):
        return False
    given, taken = [0] * len(all_groups), [0] * len(all_bundles)
    for group, bundle, seconds in use:
        given[group] += seconds
        taken[bundle] += seconds
    return (all(given[k] <= group[3] for k, group in enumerate(all_groups))
            and all(taken[k] <= bundle[1] for k, bundle in enumerate(all_bundles)))


def bill(all_groups, use):
    return sum(group[2] * group[3] for group in all_groups) - sum(all_groups[row[0]][2] * row[2] for row in use)


def least_bill(all_groups, all_bundles):
    """Of all uses there are."""
    pairs = [(i, j) for i, group in enumerate(all_groups)
             for j, bundle in enumerate(all_bundles) if covers(bundle, group)]
    many = [range(min(all_groups[i][3], all_bundles[j][1]) + 1) for i, j in pairs]
    best = bill(all_groups, ())
    for seconds in itertools.product(*many):
        use = [pair + (each,) for pair, each in zip(pairs, seconds) if each]
        if is_use(all_groups, all_bundles, use):
            best = min(best, bill(all_groups, use))
    return best


def shown(all_groups, all_bundles, worths):
    """What the worths show to be at most any bill."""
    total = 0
    for group in all_groups:
        covering = [worth for bundle, worth in zip(all_bundles, worths) if covers(bundle, group)]
        total += group[3] * min([group[2]] + covering)
    return total - sum(bundle[1] * worth for bundle, worth in zip(all_bundles, worths))


def paper_holds(all_groups, all_bundles, bound, value):
    many = len(all_bundles)
    if not (rows(value, many, many) and all(integer(each, 0, 10 ** 6) for each in value)):
        return False
    return bound <= shown(all_groups, all_bundles, value)


def shares(whole, weights):
    parts = [Fraction(whole * weight, sum(weights)) for weight in weights]
    found = [part.numerator // part.denominator for part in parts]
    served = []
    while sum(found) < whole:
        left = [k for k in range(len(parts)) if k not in served]
        # max takes the first one of equal ones.
        at = max(left, key=lambda k: parts[k] - parts[k].numerator // parts[k].denominator)
        found[at] += 1
        served.append(at)
    return tuple(found)


def tax(amount, rate):
    exact = Fraction(amount * rate, 1000)
    below = exact.numerator // exact.denominator
    return below + 1 if exact - below >= Fraction(1, 2) else below
