"""What the plain values of the package are: integers, words, numbers, seconds."""

from eachsecond.errors import BadValue

LAST_SECOND = 10 ** 8
MOST_PRICE = 10 ** 6


def need(good, at):
    """Raise BadValue for the argument at this position, unless it is good."""
    if not good:
        raise BadValue(at)


def is_integer(value):
    # True and False are ints for Python, but no integers here.
    return isinstance(value, int) and not isinstance(value, bool)


def is_within(value, low, high):
    return is_integer(value) and low <= value <= high


def is_digits(value, low, high):
    """Whether value is a string of low to high digits."""
    if not isinstance(value, str) or not low <= len(value) <= high:
        return False
    return value == "" or (value.isascii() and value.isdigit())


def is_word(value):
    if not isinstance(value, str) or not 1 <= len(value) <= 8:
        return False
    return value.isascii() and value.isalpha() and value.islower()


def is_word_or_none(value):
    return value is None or is_word(value)


def is_number(value):
    return is_digits(value, 2, 8)


def is_long_number(value):
    """Whether value is a number that is not short."""
    return is_digits(value, 3, 8)


def is_number_or_none(value):
    return value is None or is_number(value)


def is_second(value):
    return is_within(value, 0, LAST_SECOND)


def is_rows(value, low, high):
    """Whether value is a sequence of low to high members."""
    return isinstance(value, (list, tuple)) and low <= len(value) <= high


def is_rows_of(value, low, high, is_member):
    """Whether value is a sequence of low to high members, each of which is_member takes."""
    return is_rows(value, low, high) and all([is_member(member) for member in value])


def is_ascending(keys):
    """Whether each of the keys is greater than the one before it."""
    return all([keys[at] < keys[at + 1] for at in range(len(keys) - 1)])


def number_order(number):
    """The key by which numbers are ordered."""
    return (len(number), number)


def frozen(value):
    """The same with plain tuples in place of sequences, at every level."""
    if isinstance(value, (list, tuple)):
        return tuple([frozen(each) for each in value])
    return value
