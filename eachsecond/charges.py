"""To whom the seconds of a piece are charged, and as what."""

from eachsecond.tables import reached
from eachsecond.tariffs import zone_of, zone_prices
from eachsecond.weeks import stretches

NO_ZONE = "none"


def rated(tariff, dialled):
    """The zone of the dialled number, and the zone's prices by band; tariff may be None."""
    if tariff is None:
        return NO_ZONE, {}
    zone = zone_of(tariff, dialled)
    return zone, zone_prices(tariff, zone)


def charges_of(tables, week, piece):
    """Rows (begin, end, customer, (zone, band, price)) of the seconds of a piece, ascending.

    Customer and group are None where nobody holds the caller.
    """
    caller, dialled, first, many = piece
    rows = []
    for begin, end, owner in tables.owner_spans(caller, first, first + many):
        if owner is None:
            rows.append((begin, end, None, None))
            continue
        for start, stop, tariff in tables.tariff_spans(owner[0], begin, end):
            zone, prices = rated(tariff, dialled)
            for low, high, band in stretches(week, start, stop):
                rows.append((low, high, owner[0], (zone, band, prices.get(band, 0))))
    return rows


def setup_of(tables, piece):
    """The pair (customer, setup) of the first second of a piece; None if there is no setup."""
    begin = piece[2]
    owner = tables.owner_spans(piece[0], begin, begin + 1)[0][2]
    if owner is None:
        return None
    tariff = tables.tariff_spans(owner[0], begin, begin + 1)[0][2]
    return None if tariff is None else (owner[0], tariff[0])


class Tally:
    """The seconds of one cycle, from first on and below last.

    groups: by customer, and in it by (zone, band, price), how many. setups: by customer their sum.
    lone: how many nobody is charged.
    """

    def __init__(self, first, last):
        self.first = first
        self.last = last
        self.groups = {}
        self.setups = {}
        self.lone = 0

    def take(self, rows):
        """Count what is in the cycle of the rows of a piece."""
        at = max(reached(rows, self.first) - 1, 0)
        while at < len(rows) and rows[at][0] < self.last:
            begin, end, customer, group = rows[at]
            self.charge(customer, group, min(end, self.last) - max(begin, self.first))
            at += 1

    def charge(self, customer, group, seconds):
        if customer is None:
            self.lone += seconds
        else:
            groups = self.groups.setdefault(customer, {})
            groups[group] = groups.get(group, 0) + seconds

    def set_up(self, customer, setup):
        self.setups[customer] = self.setups.get(customer, 0) + setup

    def usage(self, customer):
        """The pair (groups, setups) of the customer."""
        groups = self.groups.get(customer, {})
        return tuple([group + (groups[group],) for group in sorted(groups)]), self.setups.get(customer, 0)
