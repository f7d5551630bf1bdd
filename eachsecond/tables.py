"""The facts of a house that count, by what one looks them up.

Rows (second, what), ascending, tell what there is: from the second of a row on, to that of the next one.
"""

from eachsecond.plans import owner_rows
from eachsecond.tariffs import LONGEST_CALL

MOST_BUNDLES = 8


def reached(rows, second):
    """How many of the rows are not above the second."""
    low, high = 0, len(rows)
    while low < high:
        middle = (low + high) // 2
        if rows[middle][0] <= second:
            low = middle + 1
        else:
            high = middle
    return low


def spans(rows, first, last):
    """Triples (begin, end, what) of the seconds from first on and below last; what is None before the rows."""
    at = reached(rows, first)
    what = rows[at - 1][1] if at > 0 else None
    found = []
    begin = first
    while at < len(rows) and rows[at][0] < last:
        found.append((begin, rows[at][0], what))
        begin, what = rows[at]
        at += 1
    found.append((begin, last, what))
    return found


def rows_by_name(pairs):
    """The rows of each name, of pairs of a key (name, second) and a value."""
    found = {}
    for (name, second), value in pairs:
        found.setdefault(name, []).append((second, value))
    return found


def plan_of(blocks, facts):
    """The plan of the blocks, and of the holds and forwards that count."""
    holds = [key + value for key, value in facts.listed("hold")]
    forwards = [key + value for key, value in facts.listed("forward")]
    return (blocks, tuple(holds), tuple(forwards))


class Tables:
    """The tables of the facts of a house.

    owners: by number rows of pairs (customer, carrier), or None where the number is not held.
    names: by customer rows of names of tariffs. tariffs: by name rows of tariffs.
    bundles: by customer and cycle. pieces: pairs (key, piece).
    begins: pairs (begin, (key, piece)) of the pieces that have a second, ascending.
    """

    def __init__(self, plan, facts):
        self.owners = rows_by_name([((row[0], row[1]), row[2]) for row in owner_rows(plan)])
        self.names = rows_by_name(facts.listed("uses"))
        self.tariffs = rows_by_name(facts.listed("tariff"))
        self.pieces = facts.listed("piece")
        self.begins = sorted([(pair[1][2], pair) for pair in self.pieces if pair[1][3] > 0])
        self.bundles = {}
        for (customer, cycle, word), offer in facts.listed("bundle"):
            self.bundles.setdefault((customer, cycle), []).append((word,) + offer)

    def owner_spans(self, number, first, last):
        """Triples (begin, end, owner) of the seconds from first on and below last."""
        return spans(self.owners.get(number, []), first, last)

    def tariff_spans(self, customer, first, last):
        """Triples (begin, end, tariff), tariff being None where the customer has none."""
        found = []
        for begin, end, name in spans(self.names.get(customer, []), first, last):
            found.extend(spans(self.tariffs.get(name, []), begin, end))
        return found

    def pieces_in(self, first, last):
        """The pairs (key, piece) of the pieces with a second from first on and below last."""
        # Who begins earlier than this has ended by then.
        low = reached(self.begins, first - LONGEST_CALL)
        high = reached(self.begins, last - 1)
        return [pair for begin, pair in self.begins[low:high] if begin + pair[1][3] > first]

    def bundles_for(self, customer, cycle):
        """The bundles that a bill takes, the least by word."""
        return self.bundles.get((customer, cycle), [])[:MOST_BUNDLES]
