"""The document's words, followed one by one and slowly, to compare the program with."""

DIGITS = "0123456789"
LETTERS = "abcdefghijklmnopqrstuvwxyz"


def order(number):
    return (len(number), number)


def integer(value, low, high):
    return type(value) is int and low <= value <= high


def made_of(value, signs, low, high):
    return type(value) is str and low <= len(value) <= high and set(value) <= set(signs)


def word(value):
    return made_of(value, LETTERS, 1, 8)


def number(value):
    return made_of(value, DIGITS, 2, 8)


def second(value):
    return integer(value, 0, 10 ** 8)


def rows(value, low, high):
    return type(value) in (list, tuple) and low <= len(value) <= high


def block(value):
    return (rows(value, 3, 3) and integer(value[1], 3, 8)
            and made_of(value[0], DIGITS, 1, value[1] - 1) and word(value[2]))


def hold(value):
    return (rows(value, 4, 4) and number(value[0]) and len(value[0]) > 2 and second(value[1])
            and all(part is None or word(part) for part in value[2:]))


def forward(value):
    return (rows(value, 3, 3) and number(value[0]) and second(value[1])
            and (value[2] is None or number(value[2])))


def strictly_ascending(keys):
    return all(keys[i] < keys[j] for i in range(len(keys)) for j in range(i + 1, len(keys)))


def plan(value):
    if not rows(value, 3, 3):
        return False
    blocks, holds, forwards = value
    if not (rows(blocks, 0, 8) and all(block(each) for each in blocks)):
        return False
    if not strictly_ascending([tuple(each) for each in blocks]):
        return False
    for i, one in enumerate(blocks):
        if any(one[0].startswith(other[0]) for j, other in enumerate(blocks) if i != j):
            return False
    for part, is_row in ((holds, hold), (forwards, forward)):
        if not (rows(part, 0, 400) and all(is_row(each) for each in part)):
            return False
        if list(part) != sorted(part, key=lambda row: (row[0], row[1])):
            return False
        if len({(row[0], row[1]) for row in part}) != len(part):
            return False
    return True


def at_second(of_rows, which, when):
    """The row of the number with the greatest second not above when; None if there is none."""
    fitting = [row for row in of_rows if row[0] == which and row[1] <= when]
    return max(fitting, key=lambda row: row[1]) if fitting else None


def holder(a_plan, which, when):
    mine = [each for each in a_plan[0] if len(which) == each[1] and which.startswith(each[0])]
    row = at_second(a_plan[1], which, when)
    if not mine or row is None or row[2] is None:
        return None
    return (row[2], mine[0][2] if row[3] is None else row[3])


def ring(a_plan, which, when):
    come_to = []
    while True:
        if which in come_to:
            return ("circle", which)
        come_to.append(which)
        row = at_second(a_plan[2], which, when)
        if row is None or row[2] is None:
            break
        which = row[2]
    held = holder(a_plan, which, when)
    return ("nowhere", which) if held is None else ("rings", which) + held


def first_circle(a_plan, seconds, numbers):
    for when in sorted(seconds):
        for which in sorted(numbers, key=order):
            if ring(a_plan, which, when)[0] == "circle":
                return (when, which)
    return None


def plans_part(one, other, seconds, numbers):
    for when in sorted(seconds):
        for which in sorted(numbers, key=order):
            if ring(one, which, when) != ring(other, which, when):
                return (when, which)
    return None


def day(value):
    if not rows(value, 1, 8):
        return False
    if not all(rows(pair, 2, 2) and integer(pair[0], 0, 86399) and word(pair[1]) for pair in value):
        return False
    return value[0][0] == 0 and strictly_ascending([pair[0] for pair in value])


def week(value):
    if not (rows(value, 2, 2) and rows(value[0], 8, 8) and all(day(each) for each in value[0])):
        return False
    feasts = value[1]
    return (rows(feasts, 0, 20) and all(integer(each, 0, 1000) for each in feasts)
            and strictly_ascending(feasts))


def band(a_week, when):
    count, rest = divmod(when, 86400)
    mine = a_week[0][7] if count in a_week[1] else a_week[0][count % 7]
    return [pair[1] for pair in mine if pair[0] <= rest][-1]
