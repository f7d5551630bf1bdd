"""Values that several tests pass, and what they do to them."""

NESTED = None
for _ in range(20):
    NESTED = [NESTED]

# Values of every form that [22] lets in, none of which is a plan, a week, a number, a second or a word.
STRANGE = (
    None, True, False, -1, 10 ** 8 + 1, 10 ** 30, -10 ** 30, "", " ", "\n", "~", "Ann", "ann b", "ann\n", "a1", "A",
    "abcdefghi", "1", "123456789", "12a", "12 ", " 12", "12\n", "+12", "1_2", "1.5", "x" * 20000, "7" * 20000,
    (), [], ((),), [[]], (None,), ("12",), ["ann"], (1,), [True], ((), ()), ((), (), None), ((), (), (), ()),
    (None, None, None), ("", "", ""), ("abc", "abc"), [0] * 20000, ([],) * 19999, NESTED,
)

DAY = 86400
OFFICE = ((0, "low"), (28800, "high"), (64800, "low"))
CALM = ((0, "low"),)
WEEK = ((OFFICE,) * 7 + (CALM,), ())

# Seven days that all differ, and two days of feasts one behind the other.
VARIED = (tuple(((0, name), (1000 * (k + 1), "mid"), (DAY - 1 - k, name)) for k, name in enumerate("abcdefg"))
          + (((0, "feast"), (50, "mid"), (DAY - 1, "feast")),), (0, 9, 10, 1000))


def one_band(feasts=(), feast=((0, "high"),)):
    """A week that is low at all times but on feasts."""
    return ((CALM,) * 7 + (feast,), feasts)


def as_lists(value):
    """The same with lists in place of tuples, at every level."""
    if isinstance(value, (list, tuple)):
        return [as_lists(each) for each in value]
    return value


def mixed(value, level=0):
    """The same with lists at every other level."""
    if isinstance(value, (list, tuple)):
        inner = [mixed(each, level + 1) for each in value]
        return inner if level % 2 else tuple(inner)
    return value


def places(value, at=()):
    """The ways to all things inside a value, and to the value itself."""
    found = [at]
    if isinstance(value, (list, tuple)):
        for k, each in enumerate(value):
            found.extend(places(each, at + (k,)))
    return found


def put(value, at, new):
    """The value with something new at a place."""
    if not at:
        return new
    inner = list(value)
    inner[at[0]] = put(inner[at[0]], at[1:], new)
    return inner if isinstance(value, list) else tuple(inner)


def plain(value):
    """Whether value is built from plain tuples, with nothing but integers, strings and None in them."""
    if type(value) is tuple:
        return all(plain(each) for each in value)
    return value is None or type(value) in (int, str)
