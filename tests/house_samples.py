"""Houses that several tests make, drawn or not, and all that they answer."""

from eachsecond.errors import Clash, NotNow
from eachsecond.houses import House
from samples import one_band

DAY = 86400
BLOCKS = (("4", 4, "north"), ("50", 5, "south"))
RATES = (("east", "north", 11), ("north", "east", 7), ("north", "north", 1000), ("north", "south", 3),
         ("south", "north", 5))
DAYS = tuple(tuple(((0, name), (5, "high"), (995, "low"), (1003, name), (DAY - 10, "low"))) for name in "abcdefg") + (
    ((0, "high"), (1990, "low"), (DAY - 4, "feast")),)
WEEK = (DAYS, (2, 1000))
ARGUMENTS = (WEEK, BLOCKS, RATES, 1000, 190)

PLAIN = (50, (("", "far"), ("40", "home")),
         tuple(("far", name, 9) for name in "abcd") + (("far", "high", 5), ("far", "low", 6))
         + tuple(("home", name, 4) for name in "abc") + (("home", "low", 2),))
ODD = (7, (("", "none"), ("4", "far"), ("5", "near")),
       (("far", "a", 9), ("far", "b", 1), ("far", "high", 12), ("far", "low", 3), ("near", "high", 8), ("none", "a", 1)))
FREE = (0, (("", "far"),), ())
TARIFFS = (PLAIN, ODD, PLAIN, FREE)

HELD = ("4000", "4001", "50123")
# The last two are in no block, and short.
NUMBERS = HELD + ("4002", "60000", "11")
CUSTOMERS = ("ann", "bob", "cy")
NAMES = ("plain", "odd")
BEGINS = (0, 3, 6, 990, 998, 1000, 1001, 1995, 2990, DAY - 12, 2 * DAY - 3, 10 ** 8 - 5, 10 ** 8)
CHANGES = (0, 2, 4, 7, 991, 999, 1000, 1010, 1996, DAY - 5, DAY, 2 * DAY, 10 ** 8 - 1, 10 ** 8)
CYCLES = (0, 1, 2, 3, 4, 86, 87, 172, 173, 99999, 100000, 100001, 200000)


# What most of the drawn houses have from the first second on.
BASE = tuple(
    [("hold", (number, 0), 0, (customer, None)) for number, customer in zip(HELD, CUSTOMERS)]
    + [("uses", (customer, 0), 0, NAMES[at % 2]) for at, customer in enumerate(CUSTOMERS)]
    + [("tariff", (name, 0), 0, value) for name, value in zip(NAMES, TARIFFS)])

# A plain house: one band at all times but on the day 1, one block, and a customer with a tariff.
SIMPLE = (one_band((1,)), (("4", 4, "north"),), (), 1000, 100)
TARIFF = (50, (("", "far"), ("4", "home")), (("far", "high", 9), ("far", "low", 4), ("home", "low", 2)))
ANN = (("hold", ("4000", 0), 0, ("ann", None)), ("uses", ("ann", 0), 0, "plain"), ("tariff", ("plain", 0), 0, TARIFF))


def drawn_key(chance, kind):
    """A key, and a value that is not None."""
    since = chance.choice((0, 0, 0) + CHANGES)
    if kind == "hold":
        return ((chance.choice(HELD * 3 + NUMBERS[:5]), since),
                (chance.choice(CUSTOMERS * 2 + (None,)), chance.choice((None, None, "north", "south", "east"))))
    if kind == "forward":
        return (chance.choice(NUMBERS), since), (chance.choice(NUMBERS + HELD + (None,)),)
    if kind == "uses":
        return (chance.choice(CUSTOMERS), since), chance.choice(NAMES * 3 + ("lost",))
    if kind == "tariff":
        return (chance.choice(NAMES), since), chance.choice(TARIFFS)
    if kind == "bundle":
        names = [tuple(sorted(chance.sample(words, chance.randint(0, len(words)))))
                 for words in (("far", "home", "near"), ("a", "b", "high", "low"))]
        return ((chance.choice(CUSTOMERS), chance.choice((0, 0, 0, 0, 1, 86, 1000)), chance.choice("stuvwxyz") + "x"),
                (chance.choice((0, 1, 3, 10, 100, 10 ** 9)), names[0], names[1]))
    length = chance.choice((0, 1, 2, 9, 20, 40))
    return ((chance.choice("cdefg"), chance.choice((0, 0, 0, 1, 100))),
            (chance.choice(HELD * 4 + NUMBERS[3:5]), chance.choice(HELD + NUMBERS), chance.choice(BEGINS[:6] + BEGINS), length))


def drawn_fact(chance):
    kind = chance.choice(("hold", "hold", "forward", "uses", "uses", "tariff", "tariff", "bundle", "bundle")
                         + ("piece",) * 7)
    key, value = drawn_key(chance, kind)
    return (kind, key, chance.choice((0, 0, 0, 1, 2, 1000)), None if chance.random() < 0.1 else value)


def drawn_facts(chance, many):
    """So many facts that do not clash, or a few more."""
    found = {fact[:3]: fact for fact in BASE if chance.random() < 0.85}
    while len(found) < many:
        fact = drawn_fact(chance)
        found.setdefault(fact[:3], fact)
    facts = list(found.values())
    chance.shuffle(facts)
    return facts


def drawn_arguments(chance):
    return (chance.choice((WEEK, ((DAYS[:1] * 8), ()))), chance.choice((BLOCKS, BLOCKS, BLOCKS[:1])),
            chance.choice((RATES, RATES[2:4], ())), chance.choice((1000, 1000, 1013, 10 ** 7)),
            chance.choice((190, 0, 1000, 5)))


def built(facts, arguments=ARGUMENTS):
    house = House(*arguments)
    for fact in facts:
        house.tell(fact)
    return house


def piece(call, begin, length, place=0, caller="4000", dialled="5000", version=0):
    return ("piece", (call, place), version, (caller, dialled, begin, length))


def simple(*facts):
    return built(ANN + facts, SIMPLE)


def drawn_house(chance, many):
    """A house to which facts were told, some twice, closed and paid now and then; and the facts in their sequence."""
    house = House(*drawn_arguments(chance))
    for fact in drawn_facts(chance, many):
        house.tell(fact)
        if chance.random() < 0.1:
            house.tell(fact)
        if chance.random() < 0.15:
            house.close()
        if chance.random() < 0.1:
            house.pay(chance.choice(CUSTOMERS), chance.randint(1, 300))
    return house


def bills(house, cycles=CYCLES, customers=CUSTOMERS + ("zed",)):
    """All bills, by customer and cycle."""
    return {(customer, cycle): house.bill(customer, cycle) for customer in customers for cycle in cycles}


def answers(house):
    """What a house answers of its facts alone."""
    found = [house.facts(), house.plan(), house.customers(), house.owed(), bills(house)]
    found.extend(house.usage(customer, cycle) for customer in CUSTOMERS + ("zed",) for cycle in CYCLES)
    found.extend(house.unheld(cycle) for cycle in CYCLES)
    found.extend(house.ring(number, second) for number in NUMBERS for second in (0, 3, 999, 1000, DAY, 10 ** 8))
    return found


def closings(house):
    """What a house answers of its closed cycles."""
    found = [house.invoices()]
    found.extend(house.invoiced(customer, cycle) for customer in CUSTOMERS + ("zed",) for cycle in range(6))
    found.extend(house.balance(customer) for customer in CUSTOMERS + ("zed",))
    return found


def state(house):
    """All that a house answers."""
    return [house.log(), answers(house), closings(house)]


def refused(house, fact):
    """The class of the error with which a house refuses a fact; None if it takes it."""
    try:
        house.tell(fact)
    except (Clash, NotNow) as error:
        return type(error)
    return None
