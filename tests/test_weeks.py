import itertools
import random
import unittest

import reference
from calls import CallChecks, position
from eachsecond.weeks import band, band_at, is_week, next_change, seconds_in, stretches
from samples import CALM, DAY, OFFICE, STRANGE, VARIED, WEEK, as_lists, mixed, one_band, places, put

LAST = 10 ** 8


class WeekCallTest(CallChecks, unittest.TestCase):
    CALLS = (
        (band, "week second", (VARIED, 1234)),
        (next_change, "week second", (VARIED, 1234)),
        (seconds_in, "week first last band", (VARIED, 5, DAY * 9, "mid")),
    )

    def test_is_week_by_name(self):
        self.assertIs(is_week(value=WEEK), True)

    def test_seconds(self):
        for function, at, rest in ((band, 1, ()), (next_change, 1, ()), (seconds_in, 1, (LAST, "low")),
                                   (seconds_in, 2, ("low",))):
            before = (WEEK, 0)[:at]
            for good in (0, 1, LAST - 1, LAST):
                self.assertIsNone(position(function, before + (good,) + rest))
            for bad in (-1, LAST + 1, True, False, None, "0", "", (0,), [0]):
                self.assertEqual(position(function, before + (bad,) + rest), at)

    def test_words(self):
        for good in ("a", "z", "abcdefgh", "low", "none"):
            self.assertIsNone(position(seconds_in, (WEEK, 0, 1, good)))
        for bad in ("", "abcdefghi", "Low", "lo w", "low\n", "l0w", 1, None, True, ["low"], ("l",)):
            self.assertEqual(position(seconds_in, (WEEK, 0, 1, bad)), 3)

    def test_weeks_that_are_none_are_refused(self):
        bad = (WEEK[0][:7], ())
        self.assertEqual(position(band, (bad, -1)), 0)
        self.assertEqual(position(next_change, (bad, -1)), 0)
        self.assertEqual(position(seconds_in, (bad, -1, -1, "")), 0)
        self.assertEqual(position(seconds_in, (WEEK, -1, -1, "")), 1)
        self.assertEqual(position(seconds_in, (WEEK, 0, -1, "")), 2)


class IsWeekTest(unittest.TestCase):

    def taken(self, *values):
        for value in values:
            for form in (value, as_lists(value), mixed(value)):
                self.assertIs(is_week(form), True, repr(value)[:200])

    def refused(self, *values):
        for value in values:
            for form in (value, as_lists(value), mixed(value)):
                self.assertIs(is_week(form), False, repr(value)[:200])

    def days(self, *days):
        """Weeks with each of the days at the first, a middle and the last place."""
        return [put(WEEK, (0, at), day) for day in days for at in (0, 3, 7)]

    def test_ordinary(self):
        self.taken(WEEK, VARIED, one_band((3, 500)))
        self.refused(WEEK[:1], WEEK + ((),), WEEK[0], (WEEK[0], None), (None, ()), "ab")

    def test_days(self):
        self.taken(*self.days(((0, "a"),), ((0, "a"), (1, "a")), ((0, "a"), (DAY - 1, "abcdefgh"))))
        self.refused(*self.days((), ((1, "a"),), ((0, "a"), (DAY, "b")), ((-1, "a"), (0, "b")), ((-1, "a"),)))
        self.refused(*self.days(((0, "a"), (5, "b"), (5, "c")), ((0, "a"), (0, "b")), ((0, "a"), (7, "b"), (6, "c"))))
        self.refused(*self.days(((5, "a"), (0, "b")), ((0, ""),), ((0, "A"),), ((0, None),), ((0, "abcdefghi"),)))
        self.refused(*self.days(((False, "a"),), ((0, "a"), (True, "b")), ((None, "a"),), (("0", "a"),)))
        self.refused(*self.days(((0,),), ((0, "a", "b"),), ("0a",), (0, "a"), "ab", None))

    def test_feasts(self):
        self.taken(one_band((0,)), one_band((1000,)), one_band((0, 1, 2, 1000)))
        self.refused(one_band((-1,)), one_band((1001,)), one_band((3, 3)), one_band((4, 3)), one_band((1, 2, 1)))
        self.refused(one_band((False,)), one_band((0, True)), one_band((None,)), one_band(("1",)), one_band("ab"))

    def test_the_most_members_and_one_more(self):
        day = tuple((k, "a") for k in range(9))
        self.taken(*self.days(day[:8]))
        self.refused(*self.days(day))
        self.refused(((CALM,) * 7, ()), ((CALM,) * 9, ()))
        self.taken(one_band(tuple(range(981, 1001))))
        self.refused(one_band(tuple(range(21))))

    def test_strange_values(self):
        for strange in STRANGE:
            self.assertIs(is_week(strange), False, repr(strange)[:60])

    def test_strange_values_at_every_place(self):
        value = ((CALM, OFFICE) * 4, (3, 5, 8))
        for at in places(value):
            for strange in STRANGE + (0, 1, 4, 5, 28800, 64800, DAY - 1, DAY, 1000, 1001, "abc", "low"):
                changed = put(value, at, strange)
                self.assertIs(is_week(changed), reference.week(changed), f"{at} {strange!r:.60}")


class BandTest(unittest.TestCase):

    def test_the_start_of_a_band(self):
        told = [band(WEEK, second) for second in (0, 28799, 28800, 28801, 64799, 64800, DAY - 1, DAY)]
        self.assertEqual(told, ["low", "low", "high", "high", "high", "low", "low", "low"])

    def test_the_days_of_the_week_begin_with_monday(self):
        for week in (VARIED, as_lists(VARIED)):
            told = [band(week, DAY * (7 + k)) for k in range(7)]
            self.assertEqual(told, ["a", "b", "feast", "feast", "e", "f", "g"])
            self.assertEqual([band(week, DAY * k) for k in range(14, 21)], list("abcdefg"))

    def test_the_last_second_of_a_day(self):
        self.assertEqual([band(VARIED, DAY * (k + 1) - 1) for k in range(14, 21)], list("abcdefg"))

    def test_a_feast_and_the_days_beside_it(self):
        week = one_band((0, 6, 1000))
        told = [band(week, second) for second in (
            0, DAY - 1, DAY, 6 * DAY - 1, 6 * DAY, 7 * DAY - 1, 7 * DAY,
            1000 * DAY - 1, 1000 * DAY, 1001 * DAY - 1, 1001 * DAY)]
        self.assertEqual(told, ["high", "high", "low", "low", "high", "high", "low", "low", "high", "high", "low"])

    def test_the_end_of_time(self):
        self.assertEqual((LAST // DAY, LAST // DAY % 7), (1157, 2))
        self.assertEqual(band(VARIED, LAST), "mid")
        self.assertEqual(band(WEEK, LAST), "high")

    def test_seconds_above_the_end_of_time_have_bands_inside(self):
        for second in (LAST + 1, LAST + 50000, LAST + 10 ** 6, 10 ** 10):
            self.assertEqual(band_at(VARIED, second), reference.band(VARIED, second))
        told = stretches(WEEK, LAST, LAST + 60000)
        self.assertEqual(told, [(LAST, 1157 * DAY + 64800, "high"), (1157 * DAY + 64800, 1158 * DAY, "low"),
                                (1158 * DAY, LAST + 60000, "low")])


class NextChangeTest(unittest.TestCase):

    def test_ordinary(self):
        told = [next_change(WEEK, second) for second in (0, 28799, 28800, 64799, 64800, DAY - 1, DAY)]
        tomorrow = DAY + 28800
        self.assertEqual(told, [28800, 28800, 64800, 64800, tomorrow, tomorrow, tomorrow])

    def test_a_new_start_with_the_same_band_is_no_change(self):
        day = ((0, "a"), (10, "a"), (20, "b"), (30, "b"), (40, "a"))
        week = ((day,) * 8, ())
        told = [next_change(week, second) for second in (0, 10, 19, 20, 39, 40, DAY + 19)]
        self.assertEqual(told, [20, 20, 20, 40, 40, DAY + 20, DAY + 20])

    def test_a_band_that_lasts_for_weeks_but_for_a_feast(self):
        week = one_band((1000,))
        told = [next_change(week, second) for second in (0, 999 * DAY, 1000 * DAY - 1, 1000 * DAY, 1001 * DAY - 1)]
        self.assertEqual(told, [1000 * DAY] * 3 + [1001 * DAY] * 2)
        self.assertIsNone(next_change(week, 1001 * DAY))

    def test_feasts_one_behind_the_other(self):
        week = one_band((3, 4), ((0, "high"), (60, "low"), (120, "high")))
        told = [next_change(week, second) for second in (0, 3 * DAY, 3 * DAY + 60, 4 * DAY - 1, 5 * DAY - 1)]
        self.assertEqual(told, [3 * DAY, 3 * DAY + 60, 3 * DAY + 120, 4 * DAY + 60, 5 * DAY])

    def test_there_is_none(self):
        self.assertIsNone(next_change(one_band(), 0))
        self.assertIsNone(next_change(one_band((5,), CALM), 0))
        self.assertIsNone(next_change(one_band((5,)), 6 * DAY))

    def test_the_end_of_time(self):
        rest = LAST - 1157 * DAY
        for start, expected in ((rest, LAST), (rest - 1, LAST - 1), (rest + 1, None)):
            # Day 1157 is a Wednesday; no other day changes.
            week = put(one_band(), (0, 2), ((0, "low"), (start, "high")))
            self.assertEqual(next_change(week, 1157 * DAY), expected)
            self.assertIsNone(next_change(week, LAST))
        self.assertIsNone(next_change(WEEK, LAST))

    def test_from_change_to_change(self):
        """Each change is the first second with another band, from the beginning to the end of time."""
        second, count = 0, 0
        while second is not None:
            found = next_change(VARIED, second)
            end = LAST + 1 if found is None else found
            self.assertEqual(seconds_in(VARIED, second, min(end, LAST), band(VARIED, second)), min(end, LAST) - second)
            if found is not None:
                self.assertNotEqual(band(VARIED, found), band(VARIED, found - 1))
            second, count = found, count + 1
        self.assertGreater(count, 3000)


class SecondsInTest(unittest.TestCase):

    def test_ordinary(self):
        self.assertEqual(seconds_in(WEEK, 0, DAY, "high"), 36000)
        self.assertEqual(seconds_in(WEEK, 0, DAY, "low"), DAY - 36000)
        self.assertEqual(seconds_in(WEEK, 0, 7 * DAY, "high"), 7 * 36000)

    def test_the_last_one_is_not_counted(self):
        self.assertEqual(seconds_in(WEEK, 28799, 28800, "high"), 0)
        self.assertEqual(seconds_in(WEEK, 28799, 28801, "high"), 1)
        self.assertEqual(seconds_in(WEEK, 64799, 64801, "high"), 1)
        self.assertEqual(seconds_in(WEEK, 64800, 64801, "high"), 0)
        self.assertEqual(seconds_in(WEEK, 64799, 64801, "low"), 1)

    def test_spans_of_no_second(self):
        for first, last in ((5, 5), (0, 0), (LAST, LAST), (6, 5), (LAST, 0), (DAY, DAY), (3 * DAY, 2 * DAY)):
            self.assertEqual(seconds_in(WEEK, first, last, "low"), 0)
            self.assertEqual(seconds_in(WEEK, first, last, "high"), 0)

    def test_a_band_that_the_week_does_not_have(self):
        self.assertEqual(seconds_in(WEEK, 0, LAST, "noon"), 0)
        self.assertEqual(seconds_in(one_band(), 0, LAST, "high"), 0)

    def test_feasts(self):
        week = one_band((0, 5, 1000))
        self.assertEqual(seconds_in(week, 0, LAST, "high"), 3 * DAY)
        self.assertEqual(seconds_in(week, 5 * DAY - 1, 6 * DAY + 1, "high"), DAY)
        self.assertEqual(seconds_in(week, 5 * DAY - 1, 6 * DAY + 1, "low"), 2)

    def test_all_of_time(self):
        self.assertEqual(seconds_in(one_band(), 0, LAST, "low"), LAST)
        self.assertEqual(seconds_in(WEEK, 0, LAST, "high"), 1157 * 36000 + (LAST - 1157 * DAY - 28800))
        many = sum(seconds_in(VARIED, 0, LAST, name) for name in list("abcdefg") + ["mid", "feast"])
        self.assertEqual(many, LAST)

    def test_second_by_second(self):
        for first, last in itertools.product((0, 49, 1000, DAY - 3), (DAY - 2, DAY + 60, 2 * DAY + 7)):
            seconds = [reference.band(VARIED, second) for second in range(first, last)]
            for name in ("a", "b", "c", "mid", "feast", "none"):
                self.assertEqual(seconds_in(VARIED, first, last, name), seconds.count(name))


class RandomWeekTest(unittest.TestCase):

    def random_day(self, chance):
        edge = chance.choice((5, 100, DAY))
        starts = chance.sample(range(1, edge), min(edge - 1, chance.randint(0, 7)))
        return tuple((start, chance.choice("ab")) for start in sorted(starts + [0]))

    def random_week(self, chance):
        days = tuple(self.random_day(chance) for _ in range(8))
        calm = tuple(((0, "a"),) if chance.random() < 0.5 else day for day in days)
        feasts = tuple(sorted(chance.sample(range(0, chance.choice((21, 1001))), chance.randint(0, 20))))
        return (chance.choice((days, calm)), feasts)

    def starts(self, week, first, last):
        """All seconds of the days from first to last at which a pair begins."""
        found = []
        for number in range(first, last):
            day = week[0][7] if number in week[1] else week[0][number % 7]
            found.extend(number * DAY + start for start, _ in day)
        return found

    def test_bands_changes_and_spans(self):
        chance = random.Random(20261119)
        for _ in range(60):
            week = self.random_week(chance)
            begins = self.starts(week, 0, 30)
            changes = [at for at in begins if at and reference.band(week, at) != reference.band(week, at - 1)]
            for second in chance.sample(range(20 * DAY), 10) + chance.sample(begins[:20], 5):
                self.assertEqual(band(week, second), reference.band(week, second))
                later = [at for at in changes if at > second]
                if later:
                    self.assertEqual(next_change(week, second), later[0], (week, second))
                last = chance.randrange(25 * DAY)
                edges = [second] + [at for at in begins if second < at < last] + [max(last, second)]
                for name in "abc":
                    many = sum(end - at for at, end in zip(edges, edges[1:]) if reference.band(week, at) == name)
                    self.assertEqual(seconds_in(week, second, last, name), many, (week, second, last))


if __name__ == "__main__":
    unittest.main()
