"""The least bill of groups of seconds, what the bundles are used for, and a paper that shows it."""

from eachsecond.filling import Filling, cover_of, members
from eachsecond.values import (
    MOST_PRICE, is_ascending, is_integer, is_rows, is_rows_of, is_within, is_word, need,
)

MOST_SECONDS = 10 ** 9


def is_group(value):
    if not is_rows(value, 4, 4):
        return False
    zone, band, price, seconds = value
    if not (is_word(zone) and is_word(band)):
        return False
    return is_within(price, 0, MOST_PRICE) and is_within(seconds, 1, MOST_SECONDS)


def is_groups(value):
    if not is_rows_of(value, 0, 4000, is_group):
        return False
    return is_ascending([(row[0], row[1], row[2]) for row in value])


def is_words(value):
    """Whether value is a tuple of zones or of bands as it stands in a bundle."""
    return is_rows_of(value, 0, 12, is_word) and is_ascending(value)


def is_offer(value):
    """Whether value is what a bundle has behind its word."""
    if not is_rows(value, 3, 3):
        return False
    seconds, zones, bands = value
    return is_within(seconds, 0, MOST_SECONDS) and is_words(zones) and is_words(bands)


def is_bundle(value):
    return is_rows(value, 4, 4) and is_word(value[0]) and is_offer(value[1:])


def is_bundles(value):
    return is_rows_of(value, 0, 8, is_bundle) and is_ascending([row[0] for row in value])


def is_worth(value):
    return is_within(value, 0, MOST_PRICE)


def filled(groups, bundles):
    """The filling of groups and bundles, if they are as described."""
    need(is_groups(groups), 0)
    need(is_bundles(bundles), 1)
    return Filling(groups, bundles)


def least_bill(groups, bundles):
    """The least bill that any use of the bundles makes."""
    return filled(groups, bundles).bill()


def uses(groups, bundles):
    """A use (group, bundle, seconds) .. of the bundles that makes the least bill."""
    return filled(groups, bundles).uses()


def paper(groups, bundles):
    """Worths of a second of each bundle that hold for the least bill."""
    return filled(groups, bundles).worths()


def paper_holds(groups, bundles, bound, value):
    """Whether value is worths of the bundles that show that no bill is below the bound."""
    need(is_groups(groups), 0)
    need(is_bundles(bundles), 1)
    need(is_integer(bound), 2)
    if not is_rows_of(value, len(bundles), len(bundles), is_worth):
        return False
    shown = 0
    for group in groups:
        worths = [value[at] for at in members(cover_of(group, bundles))]
        shown += group[3] * min([group[2]] + worths)
    return bound <= shown - sum([row[1] * worth for row, worth in zip(bundles, value)])
