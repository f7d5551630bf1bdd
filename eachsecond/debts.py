"""What carriers owe one another for the seconds of pieces."""

from eachsecond.plans import ring_at


def carriers_of(plan, rates):
    """The carriers of blocks, holds and rates, ascending."""
    found = {block[2]: True for block in plan[0]}
    for hold in plan[1]:
        if hold[3] is not None:
            found[hold[3]] = True
    for payer, payee, _ in rates:
        found[payer] = True
        found[payee] = True
    return sorted(found)


def call_begins(pieces):
    """By call the least begin of its pieces."""
    found = {}
    for (call, _), (_, _, begin, _) in pieces:
        found[call] = min(begin, found.get(call, begin))
    return found


def debts(plan, tables):
    """Triples (payer, payee, seconds) of the pieces: who serves the caller, and who serves what rings."""
    begins = call_begins(tables.pieces)
    found = []
    for (call, _), (caller, dialled, begin, many) in tables.pieces:
        place = ring_at(plan, dialled, begins[call])
        if place[0] == "rings":
            for start, end, owner in tables.owner_spans(caller, begin, begin + many):
                if owner is not None and owner[1] != place[3]:
                    found.append((owner[1], place[3], end - start))
    return found


def owed_of(plan, tables, rates):
    """The pairs (carrier, money), ascending: what a carrier is owed less what it owes."""
    prices = {(payer, payee): price for payer, payee, price in rates}
    sums = {carrier: 0 for carrier in carriers_of(plan, rates)}
    for payer, payee, seconds in debts(plan, tables):
        money = seconds * prices.get((payer, payee), 0)
        sums[payer] -= money
        sums[payee] += money
    return tuple(sums.items())
