"""Facts: their forms, and those that were told to a house."""

from eachsecond.bundles import is_offer
from eachsecond.tariffs import LONGEST_CALL, is_tariff
from eachsecond.values import (
    is_long_number, is_number, is_number_or_none, is_rows, is_rows_of, is_second, is_within, is_word,
    is_word_or_none,
)

KINDS = ("bundle", "forward", "hold", "piece", "tariff", "uses")
MOST_FACTS = 400
LAST_VERSION = 1000
LAST_BUNDLE_CYCLE = 1000
LAST_PIECE = 100


def is_pair(key, is_name, is_place):
    """Whether key is a pair, the first of which is_name takes, and the second is_place."""
    return is_rows(key, 2, 2) and is_name(key[0]) and is_place(key[1])


def is_bundle_key(key):
    if not is_rows(key, 3, 3):
        return False
    customer, cycle, word = key
    return is_word(customer) and is_within(cycle, 0, LAST_BUNDLE_CYCLE) and is_word(word)


def is_piece_number(value):
    return is_within(value, 0, LAST_PIECE)


def is_key(kind, key):
    """Whether kind is a kind of facts, and key a key of them."""
    if kind == "hold":
        return is_pair(key, is_long_number, is_second)
    if kind == "forward":
        return is_pair(key, is_number, is_second)
    if kind == "uses" or kind == "tariff":
        return is_pair(key, is_word, is_second)
    if kind == "bundle":
        return is_bundle_key(key)
    return kind == "piece" and is_pair(key, is_word, is_piece_number)


def is_piece(value):
    """Whether value is (caller, dialled, begin, length)."""
    if not is_rows(value, 4, 4):
        return False
    caller, dialled, begin, length = value
    return is_long_number(caller) and is_number(dialled) and is_second(begin) and is_within(length, 0, LONGEST_CALL)


def is_value(kind, value):
    """Whether value, not None, is one of the facts of this kind."""
    if kind == "hold":
        return is_rows_of(value, 2, 2, is_word_or_none)
    if kind == "forward":
        return is_rows_of(value, 1, 1, is_number_or_none)
    if kind == "uses":
        return is_word(value)
    if kind == "tariff":
        return is_tariff(value)
    if kind == "bundle":
        return is_offer(value)
    return is_piece(value)


def is_fact(value):
    """Whether value is a fact."""
    if not is_rows(value, 4, 4):
        return False
    kind, key, version, worth = value
    if not (is_key(kind, key) and is_within(version, 0, LAST_VERSION)):
        return False
    return worth is None or is_value(kind, worth)


class Facts:
    """The facts that were told.

    told: by kind, key and version the value. best: by kind, and in it by key, the pair of the
    greatest version and its value; that fact counts if the value is not None.
    """

    def __init__(self):
        self.told = {}
        self.best = {kind: {} for kind in KINDS}

    def has(self, fact):
        """Whether a fact with the same kind, key and version was told."""
        return fact[:3] in self.told

    def clashes(self, fact):
        """Whether one was told with another value."""
        return self.has(fact) and self.told[fact[:3]] != fact[3]

    def is_full(self):
        return len(self.told) >= MOST_FACTS

    def counting(self, kind, key):
        """The value of the fact that counts; None if none does."""
        return self.best[kind].get(key, (0, None))[1]

    def keep(self, fact):
        """Take a fact that does not clash."""
        kind, key, version, value = fact
        self.told[(kind, key, version)] = value
        best = self.best[kind]
        if key not in best or best[key][0] < version:
            best[key] = (version, value)

    def listed(self, kind):
        """The pairs (key, value) of the facts of this kind that count, ascending by key."""
        best = self.best[kind]
        return [(key, best[key][1]) for key in sorted(best) if best[key][1] is not None]

    def listing(self):
        """The facts that count, ascending by kind and key."""
        found = []
        for kind in KINDS:
            best = self.best[kind]
            found.extend([(kind, key, best[key][0], value) for key, value in self.listed(kind)])
        return tuple(found)

    def copy(self):
        """The same facts, that change independently."""
        other = Facts()
        other.told = {key: self.told[key] for key in self.told}
        other.best = {kind: {key: best[key] for key in best} for kind, best in self.best.items()}
        return other
