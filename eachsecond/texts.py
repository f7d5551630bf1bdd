"""Facts as texts: words with one space between them."""

from eachsecond.bundles import MOST_SECONDS, is_words
from eachsecond.errors import BadText
from eachsecond.facts import KINDS, LAST_BUNDLE_CYCLE, LAST_PIECE, LAST_VERSION, is_fact
from eachsecond.tariffs import LONGEST_CALL, MOST_PRICES, MOST_ZONES
from eachsecond.values import (
    LAST_SECOND, MOST_PRICE, is_digits, is_long_number, is_number, is_word, need,
)

NOTHING = "-"
NO_VALUE = "*"


def dashed(member):
    """The word of a member that may be None."""
    return NOTHING if member is None else member


def comma_word(names):
    """The one word of the zones, or of the bands, of a bundle."""
    return ",".join(names) if names else NOTHING


def value_words(kind, value):
    """The words of a value that is not None."""
    if kind == "uses":
        return [value]
    if kind == "tariff":
        setup, zones, prices = value
        words = [str(setup)] + [f"{prefix}:{zone}" for prefix, zone in zones]
        return words + [f"{zone}/{band}/{price}" for zone, band, price in prices]
    if kind == "bundle":
        return [str(value[0]), comma_word(value[1]), comma_word(value[2])]
    if kind == "piece":
        return [str(member) for member in value]
    return [dashed(member) for member in value]


def printed(fact):
    """The text of the fact."""
    need(is_fact(fact), 0)
    kind, key, version, value = fact
    words = [kind] + [str(member) for member in key] + [str(version)]
    return " ".join(words + ([NO_VALUE] if value is None else value_words(kind, value)))


def is_decimal(word, high):
    """Whether word is an integer from 0 to high, without leading zeros."""
    # The length first: Python refuses to read very long integers.
    if not is_digits(word, 1, len(str(high))) or (word[0] == "0" and word != "0"):
        return False
    return int(word) <= high


class Reader:
    """The words of a text, and the place of the one to be read next."""

    def __init__(self, text):
        self.words = text.split(" ")
        self.place = 0

    def is_over(self):
        """Whether no word is left."""
        return self.place == len(self.words)

    def step(self):
        """Go on to the next word."""
        self.place += 1

    def check(self, good):
        """BadText at this place, unless it is good."""
        if not good:
            raise BadText(self.place)

    def word(self):
        """The word at this place, which may be there."""
        self.check(not self.is_over())
        return self.words[self.place]

    def taken(self, is_good):
        """The word at this place, if is_good takes it."""
        found = self.word()
        self.check(is_good(found))
        self.step()
        return found

    def integer(self, high):
        """The integer from 0 to high at this place."""
        return int(self.taken(lambda word: is_decimal(word, high)))

    def second(self):
        return self.integer(LAST_SECOND)

    def maybe(self, is_good):
        """The word at this place, if is_good takes it, or None."""
        found = self.taken(lambda word: word == NOTHING or is_good(word))
        return None if found == NOTHING else found

    def comma_names(self):
        """The zones, or the bands, of a bundle."""
        found = self.taken(lambda word: word == NOTHING or is_words(word.split(",")))
        return () if found == NOTHING else tuple(found.split(","))

    def zones(self):
        """The pairs (prefix, zone) of a tariff, up to what is none of them."""
        rows = []
        while not self.is_over() and len(rows) < MOST_ZONES and ":" in self.word():
            prefix, _, zone = self.word().partition(":")
            self.check(is_digits(prefix, 0, 3) and is_word(zone))
            self.check(prefix > rows[-1][0] if rows else prefix == "")
            rows.append((prefix, zone))
            self.step()
        self.check(len(rows) > 0)
        return tuple(rows)

    def prices(self):
        """The triples (zone, band, price) of a tariff, up to the end."""
        rows = []
        while not self.is_over() and len(rows) < MOST_PRICES:
            parts = self.word().split("/")
            self.check(len(parts) == 3)
            zone, band, price = parts
            self.check(is_word(zone) and is_word(band) and is_decimal(price, MOST_PRICE))
            self.check(len(rows) == 0 or (zone, band) > rows[-1][:2])
            rows.append((zone, band, int(price)))
            self.step()
        return tuple(rows)


def is_kind(word):
    return word in KINDS


def key_of(reader, kind):
    """The key of a fact of this kind."""
    if kind == "hold":
        return (reader.taken(is_long_number), reader.second())
    if kind == "forward":
        return (reader.taken(is_number), reader.second())
    if kind == "bundle":
        return (reader.taken(is_word), reader.integer(LAST_BUNDLE_CYCLE), reader.taken(is_word))
    if kind == "piece":
        return (reader.taken(is_word), reader.integer(LAST_PIECE))
    return (reader.taken(is_word), reader.second())


def value_of(reader, kind):
    """The value, not None, of a fact of this kind."""
    if kind == "hold":
        return (reader.maybe(is_word), reader.maybe(is_word))
    if kind == "forward":
        return (reader.maybe(is_number),)
    if kind == "uses":
        return reader.taken(is_word)
    if kind == "tariff":
        return (reader.integer(MOST_PRICE), reader.zones(), reader.prices())
    if kind == "bundle":
        return (reader.integer(MOST_SECONDS), reader.comma_names(), reader.comma_names())
    return (reader.taken(is_long_number), reader.taken(is_number), reader.second(), reader.integer(LONGEST_CALL))


def parse(text):
    """The fact of the text; BadText tells the first word that may not stand there."""
    if not isinstance(text, str):
        raise BadText(0)
    reader = Reader(text)
    kind = reader.taken(is_kind)
    key = key_of(reader, kind)
    version = reader.integer(LAST_VERSION)
    value = None
    if reader.word() == NO_VALUE:
        reader.step()
    else:
        value = value_of(reader, kind)
    reader.check(reader.is_over())
    return (kind, key, version, value)
