"""Where a number rings: by blocks, by who holds it, by forwarding."""

from eachsecond.courses import Course, Pair, changes
from eachsecond.values import (
    is_ascending, is_digits, is_long_number, is_number, is_number_or_none, is_rows, is_rows_of,
    is_second, is_within, is_word, is_word_or_none, need, number_order,
)


def is_block(value):
    if not is_rows(value, 3, 3):
        return False
    prefix, length, carrier = value
    return is_within(length, 3, 8) and is_digits(prefix, 1, length - 1) and is_word(carrier)


def is_blocks(value):
    """Whether value is a tuple of blocks as it stands in a plan."""
    if not is_rows_of(value, 0, 8, is_block):
        return False
    prefixes = [block[0] for block in value]
    # In ascending order all that begins with a prefix follows it at once; so neighbours tell.
    clear = [not prefixes[at + 1].startswith(prefixes[at]) for at in range(len(prefixes) - 1)]
    return is_ascending(prefixes) and all(clear)


def is_hold(value):
    if not is_rows(value, 4, 4):
        return False
    number, second, customer, carrier = value
    if not (is_long_number(number) and is_second(second)):
        return False
    return is_word_or_none(customer) and is_word_or_none(carrier)


def is_forward(value):
    if not is_rows(value, 3, 3):
        return False
    number, second, to = value
    return is_number(number) and is_second(second) and is_number_or_none(to)


def is_timed(rows):
    """Whether the rows ascend by number and second."""
    return is_ascending([(row[0], row[1]) for row in rows])


def is_plan(value):
    """Whether value is a plan."""
    if not is_rows(value, 3, 3):
        return False
    blocks, holds, forwards = value
    if not (is_blocks(blocks) and is_rows_of(holds, 0, 400, is_hold) and is_timed(holds)):
        return False
    return is_rows_of(forwards, 0, 400, is_forward) and is_timed(forwards)


def latest(rows, second):
    """What each number has at the second, of rows (number, second, what)."""
    # The rows of one number ascend by second, so the last one that fits is the latest.
    return {number: what for number, since, what in rows if since <= second}


def block_carrier(blocks, number):
    """The carrier of the block that the number is in; None if it is in none."""
    for prefix, length, carrier in blocks:
        if len(number) == length and number.startswith(prefix):
            return carrier
    return None


def owner_rows(plan):
    """The holds as rows (number, second, owner): a pair (customer, carrier), or None if it is not held."""
    blocks, holds, _ = plan
    rows = []
    for number, second, customer, carrier in holds:
        block = block_carrier(blocks, number)
        if block is None or customer is None:
            rows.append((number, second, None))
        elif carrier is None:
            rows.append((number, second, (customer, block)))
        else:
            rows.append((number, second, (customer, carrier)))
    return rows


def still(owners, number):
    """The ring of a number that is not forwarded."""
    owner = owners.get(number)
    if owner is None:
        return ("nowhere", number)
    return ("rings", number, owner[0], owner[1])


def ring_of(owners, targets, number):
    """The ring of a number, by owners and targets of numbers at one second."""
    passed = set()
    while targets.get(number) is not None:
        if number in passed:
            return ("circle", number)
        passed.add(number)
        number = targets[number]
    return still(owners, number)


def ring_at(plan, number, second):
    """`ring` of a plan and a number that are as described, also above the last second."""
    return ring_of(latest(owner_rows(plan), second), latest(plan[2], second), number)


def ring(plan, number, second):
    """Where the number rings at the second: ("rings", ..), ("nowhere", ..) or ("circle", ..)."""
    need(is_plan(plan), 0)
    need(is_number(number), 1)
    need(is_second(second), 2)
    return ring_at(plan, number, second)


def holder_at(plan, number, second):
    """`holder` of a plan and a number that are as described, also above the last second."""
    return latest(owner_rows(plan), second).get(number)


def holder(plan, number, second):
    """The pair (customer, carrier) of a number that is held at the second, otherwise None."""
    need(is_plan(plan), 0)
    need(is_number(number), 1)
    need(is_second(second), 2)
    return holder_at(plan, number, second)


def follow(targets, found, start):
    """Go on from start to what was found before, is not forwarded, or was passed: (way, where one came to)."""
    way = {}
    number = start
    while targets.get(number) is not None and number not in found and number not in way:
        way[number] = len(way)
        number = targets[number]
    return way, number


def keep_circle(found, way, entry):
    """Keep the rings of the numbers on a way that comes to its entry a second time."""
    for number, at in way.items():
        # Who starts in the circle comes back to the start, who starts before it to the entry.
        first = entry if at < way[entry] else number
        found[number] = ("circle", first)


def all_rings(owners, targets):
    """The rings of all numbers, but for those that are not forwarded and ring nowhere."""
    moved = [number for number in targets if targets[number] is not None]
    found = {number: still(owners, number) for number in owners if owners[number] is not None}
    for number in moved:
        found.pop(number, None)
    for start in moved:
        way, last = follow(targets, found, start)
        if last in way:
            keep_circle(found, way, last)
        else:
            place = found.get(last, ("nowhere", last))
            for number in way:
                found[number] = place
    return found


def first_circle(plan):
    """The pair (second, number) at which a ring first is a circle; None if none ever is."""
    need(is_plan(plan), 0)
    moves = changes(plan[2])
    course = Course()
    for second in sorted(moves):
        course.go(moves[second])
        if course.around:
            rings = all_rings({}, course.targets)
            circling = [number for number in rings if rings[number][0] == "circle"]
            return (second, min(circling, key=number_order))
    return None


def parting_number(pair):
    """The least number whose rings part in a pair of plans."""
    here = all_rings(pair.one_owners, pair.one.targets)
    there = all_rings(pair.other_owners, pair.other.targets)
    # A number that stands in neither rings nowhere in both.
    parting = [number for number in list(here) + list(there) if here.get(number) != there.get(number)]
    return min(parting, key=number_order)


def plans_part(one, other):
    """The pair (second, number) at which the rings of two plans first part; None if they never do."""
    need(is_plan(one), 0)
    need(is_plan(other), 1)
    kinds = [changes(rows) for rows in (one[2], other[2], owner_rows(one), owner_rows(other))]
    pair = Pair()
    for second in sorted({at for kind in kinds for at in kind}):
        news = [kind.get(second, {}) for kind in kinds]
        if pair.go(*news):
            return (second, parting_number(pair))
    return None
