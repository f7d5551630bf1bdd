"""Plans with many forwards at seconds of their own, for which `first_circle` and `plans_part` go on step by step."""

import random
import time
import unittest

import reference
from eachsecond.plans import first_circle, is_plan, plans_part
from samples import as_lists

BLOCK = (("1", 4, "east"),)
END = 10 ** 6


def made(rows, holds=()):
    """The plan of forwards and holds that stand in any sequence."""
    return (BLOCK, tuple(sorted(holds)), tuple(sorted(rows, key=lambda row: row[:2])))


def name(k):
    return str(1000 + k)


def chain(seconds):
    """Forwards from each number to the next one, each at its own second."""
    return [(name(k), second, name(k + 1)) for k, second in enumerate(seconds)]


def orders(many):
    """Ways in which a chain may come up: from its front, from its back, from both ends, in no order."""
    return (list(range(many)), list(range(many, 0, -1)), [min(k, many - k) * 2 + (k * 2 < many) for k in range(many)],
            [k * 7919 % 900 for k in range(many)])


def numbers_of(*plans):
    found = {row[0] for plan in plans for part in plan[1:] for row in part}
    return sorted(found | {row[2] for plan in plans for row in plan[2]} - {None}, key=reference.order)


def seconds_of(*plans):
    return sorted({row[1] for plan in plans for part in plan[1:] for row in part})


def slow_circle(plan):
    numbers = numbers_of(plan)
    for second in seconds_of(plan):
        rings = reference.rings(plan, second, numbers)
        for number in numbers:
            if rings[number][0] == "circle":
                return (second, number)
    return None


def slow_parting(one, other):
    numbers = numbers_of(one, other)
    for second in seconds_of(one, other):
        here, there = reference.rings(one, second, numbers), reference.rings(other, second, numbers)
        for number in numbers:
            if here[number] != there[number]:
                return (second, number)
    return None


def on_the_way(rows, chance, steps):
    """Other forwards that lead to the same ends: each one goes on, up to so many steps, along the way of its number."""
    told, had = [], {}
    for second in sorted({row[1] for row in rows}):
        targets = {number: to for number, since, to in sorted(rows, key=lambda row: row[:2]) if since <= second}
        for number, to in sorted(targets.items()):
            passed = [number]
            for _ in range(chance.randint(0, steps)):
                if to in passed or targets.get(to) is None:
                    break
                passed.append(to)
                to = targets[to]
            # What still leads the same way may stay as it was.
            keep = had.get(number) is not None and chance.random() < 0.9
            way, at = [number], targets[number]
            while at is not None and at not in way:
                way.append(at)
                at = targets.get(at)
            if keep and at is None and had[number] in way[1:]:
                to = had[number]
            if had.get(number) != to:
                told.append((number, second, to))
                had[number] = to
    return told


class LongPlanChecks:
    """For a TestCase: both functions against the slow reading."""

    def circle(self, rows, expected="slow"):
        plan = made(rows)
        self.assertTrue(is_plan(plan))
        if expected == "slow":
            expected = slow_circle(plan)
        self.assertEqual(first_circle(plan), expected)
        self.assertEqual(first_circle(as_lists(plan)), expected)
        return expected

    def parting(self, one, other, expected="slow"):
        self.assertTrue(is_plan(one) and is_plan(other))
        if expected == "slow":
            expected = slow_parting(one, other)
        self.assertEqual(plans_part(one, other), expected)
        self.assertEqual(plans_part(other, as_lists(one)), expected)
        return expected


class LongCircleTest(LongPlanChecks, unittest.TestCase):

    def test_chains_left_open(self):
        for seconds in orders(400):
            self.circle(chain(seconds), None)
        for seconds in orders(60):
            self.assertIsNone(self.circle(chain(seconds)))

    def test_chains_closed_at_the_end(self):
        for seconds in orders(399):
            for back in (0, 200, 398, 399):
                self.circle(chain(seconds) + [(name(399), END, name(back))], (END, name(0)))
        for seconds in orders(50):
            for back in (0, 20, 49, 50):
                self.assertEqual(self.circle(chain(seconds) + [(name(50), END, name(back))]), (END, name(0)))

    def test_chains_that_lead_back_from_the_first_second_on(self):
        for many in (60, 399):
            for seconds in orders(many):
                for back in (0, many // 3, many - 1):
                    rows = chain(seconds) + [(name(many), 0, name(back))]
                    # The circle is closed by the last forward behind the number that it comes back to.
                    closed = max(seconds[back:])
                    reached = [k for k in range(many + 1) if all(second <= closed for second in seconds[k:])]
                    self.circle(rows, (closed, name(reached[0])))
                    if many == 60:
                        self.circle(rows)

    def test_several_ways_into_one_circle(self):
        for seconds in orders(40):
            ways = [(f"2{way}{k:02d}", seconds[k] + way, f"2{way}{k + 1:02d}") for way in range(3) for k in range(20)]
            ways += [(f"2{way}20", 50 * way, name(13 * way)) for way in range(3)]
            for last in (3, 70, END):
                rows = chain(seconds) + ways + [(name(40), last, name(9))]
                self.assertIsNotNone(self.circle(rows))
                self.circle([row for row in rows if row[0] != "1000"] + [("12", 5, "2000")])

    def test_numbers_that_lead_to_a_circle_are_ordered_by_length(self):
        rows = chain(range(30)) + [("99", 7, "1029"), ("100", 3, "1029"), ("98", END + 1, "1029")]
        self.assertEqual(self.circle(rows + [(name(30), END, name(12))]), (END, "99"))
        self.assertEqual(self.circle(rows + [(name(30), 3, name(29))]), (29, "99"))

    def test_forwards_that_go_back_to_none(self):
        for seconds in orders(60):
            open_ones = [(name(k), 950 + k, None) for k in range(0, 60, 7)]
            self.circle(chain(seconds) + open_ones + [(name(60), END, name(0))], None)
            self.circle(chain(seconds) + [(name(30), 951, None), (name(60), 952, name(0)), (name(30), 953, name(31))])
            self.circle(chain(seconds) + [(name(60), 3, name(0)), (name(60), 5, None), (name(60), 990, name(59))])
            self.circle(chain(seconds) + open_ones + [(name(60), 951, name(57))])

    def test_forwards_that_all_change_at_one_second(self):
        there = chain([0] * 150)
        turned = [(name(k + 1), 9, name(k)) for k in range(150)]
        self.circle(there + turned + [(name(0), 9, None)], None)
        self.circle(there + turned, (9, name(0)))
        self.circle(there + turned[1:], (9, name(0)))
        self.circle(there + turned[1:] + [(name(0), 9, None), (name(1), 9, None)], None)
        self.circle(there + turned[:80] + [(name(0), 9, None)])

    def test_a_forward_from_where_nobody_leads(self):
        rows = chain(range(100)) + [(f"3{k:03d}", 50 + k, name(k)) for k in range(100)]
        self.circle(rows, None)
        self.circle(rows + [(name(100), END, "3042")], (END, name(0)))
        self.assertEqual(self.circle(rows + [(name(100), END, "3042")]), (END, name(0)))


class LongPartingTest(LongPlanChecks, unittest.TestCase):

    def setUp(self):
        self.chance = random.Random(20261119)

    def near(self, rows):
        """The forwards with one of them left out, led elsewhere or told at another second."""
        rows = list(rows)
        at = self.chance.randrange(len(rows))
        number, second, to = rows[at]
        targets = [row[2] for row in rows] + [None]
        rows[at] = self.chance.choice(((number, second, self.chance.choice(targets)), (number, second + 1, to)))
        if self.chance.random() < 0.3:
            del rows[at]
        # No two with the same number and second.
        return list({row[:2]: row for row in rows}.values())

    def families(self, many):
        """Forwards of the kinds that circles and partings hide in."""
        for seconds in orders(many):
            rows = chain(seconds)
            yield rows
            yield rows + [(name(many), END, name(many // 2))]
            yield rows + [(name(many), 0, name(many // 3))]
            yield rows + [(name(k), 950 + k, None) for k in range(0, many, 5)] + [(name(many), 960, name(0))]
            # A circle that comes up and goes away again, while the chain grows.
            yield rows + [("200", 0, "201")] + [("201", 3 * k, None if k % 2 else "200") for k in range(many // 3)]
            # The chain itself is a circle, now and then, and leads elsewhere in between.
            yield rows + [(name(many), 2 * k, (name(0), None, "300", name(many // 2))[k % 4]) for k in range(many)]
            # Several ways into it.
            yield rows + [(f"4{k:02d}", 2 * k, name(k * 3 % many)) for k in range(many // 2)] + [
                (name(many), 30 + k, name(k) if k % 2 else None) for k in range(0, many, 4)]

    def test_a_plan_and_itself(self):
        holds = [(name(400), 0, "ann", None)]
        for seconds in orders(400):
            self.parting(made(chain(seconds), holds), made(chain(seconds), holds), None)
        for rows in self.families(30):
            self.assertIsNone(self.parting(made(rows, holds), made(rows, holds)))

    def test_one_forward_that_differs(self):
        told = []
        for rows in self.families(24):
            for _ in range(6):
                told.append(self.parting(made(rows), made(self.near(rows))))
        self.assertGreater(told.count(None), 5)
        self.assertGreater(len(told) - told.count(None), 50)

    def test_other_ways_to_the_same_ends(self):
        alike = parted = 0
        for rows in self.families(20):
            for steps in (1, 3, 20):
                others = on_the_way(rows, self.chance, steps)
                if len(others) <= 400:
                    alike += self.parting(made(rows), made(others)) is None
                    parted += self.parting(made(self.near(rows)), made(others)) is not None
        self.assertGreater(alike, 20)
        self.assertGreater(parted, 20)

    def test_a_move_in_both_plans_that_only_one_of_the_ways_passes(self):
        one = [("11", 0, "12"), ("12", 0, "13"), ("13", 0, "14")]
        other = [("11", 0, "13"), ("12", 0, "13"), ("13", 0, "14")]
        self.assertIsNone(self.parting(made(one + [("13", 5, "15")]), made(other + [("13", 5, "15")])))
        self.assertEqual(self.parting(made(one + [("12", 5, "15")]), made(other + [("12", 5, "15")])), (5, "11"))
        self.assertEqual(self.parting(made(one + [("12", 5, "11")]), made(other + [("12", 5, "11")])), (5, "11"))
        behind = hidden = 0
        for seconds in orders(24):
            rows = chain(seconds)
            for steps in (1, 4):
                others = on_the_way(rows, self.chance, steps)
                for at in range(0, 24, 3):
                    for to in ("999", None, name(0)):
                        # Who bypasses the number in one plan, and not in the other, is parted, or nobody is.
                        moves = [(name(at), END, to), (name(23), END + 1, "998")]
                        told = self.parting(made(rows + moves), made(others + moves))
                        behind += told is not None and told[1] != name(at)
                        hidden += told is None
        self.assertGreater(behind, 20)
        self.assertGreater(hidden, 20)

    def test_holds_along_the_way(self):
        for seconds in orders(20):
            rows = chain(seconds)
            others = on_the_way(rows, self.chance, 4)
            holds = [(name(k), 5 * k, ("ann", "bob", None)[k % 3], (None, "west")[k % 2]) for k in range(21)]
            self.parting(made(rows, holds), made(others, holds))
            for at, second in ((7, 1), (20, 1), (20, 950), (3, 950)):
                changed = [hold for hold in holds if hold[:2] != (name(at), second)] + [(name(at), second, "eve", None)]
                self.parting(made(rows, holds), made(others, changed))
                self.parting(made(rows, holds), made(rows, changed))
            self.parting(made(rows, holds), made(rows, holds[1:] + [(name(0), 0, "ann", "east")]), None)

    def test_chains_of_the_full_length(self):
        holds = [(name(400), 0, "ann", None)]
        for seconds in orders(400):
            rows = chain(seconds)
            for at in (0, 200, 399):
                changed = rows[:at] + [(name(at), seconds[at], "999")] + rows[at + 1:]
                reached = [k for k in range(at + 1) if all(second <= seconds[at] for second in seconds[k:at])]
                expected = (seconds[at], min(name(k) for k in reached))
                self.parting(made(rows, holds), made(changed, holds), expected)
            self.parting(made(rows, holds), made(rows, holds + [(name(400), END, "bob", None)]), (END, name(0)))
            self.parting(made(rows, holds), made(rows, holds + [(name(400), END, "ann", "east")]), None)

    def test_a_chain_and_a_star(self):
        for toggles in ([], [(name(200), k + 1, "3000" if k % 2 else None) for k in range(190)]):
            row, star = chain([0] * 200) + toggles, [(name(k), 0, name(200)) for k in range(200)] + toggles
            self.parting(made(row), made(star), None)
            self.parting(made(row), made(star + [(name(7), END, name(8))]), None)
            self.parting(made(row), made(star + [(name(7), END, "3001")]), (END, name(7)))
            self.parting(made(row + [(name(7), END, "3001")]), made(star), (END, name(0)))
        growing = [(name(k), 400 - k, name(k + 1)) for k in range(400)]
        star = [(name(k), 400 - k, name(400)) for k in range(400)]
        self.parting(made(growing), made(star), None)
        self.parting(made(growing), made(star[1:]), (400, name(0)))

    def test_circles_side_by_side(self):
        # All numbers are in circles all the time; in which one makes no difference.
        pairs = [(f"1{k:02d}", 0, f"1{k ^ 1:02d}") for k in range(40)]
        ring = [(f"1{k:02d}", 0, f"1{(k + 1) % 40:02d}") for k in range(40)]
        self.assertIsNone(self.parting(made(pairs), made(ring)))
        turns = [(f"1{at:02d}", 5 + at, None) for at in range(0, 40, 8)]
        turns += [(f"1{at:02d}", 7 + at, f"1{at + 1:02d}") for at in range(0, 40, 8)]
        self.assertEqual(self.parting(made(pairs + turns), made(ring)), (5, "100"))
        self.assertEqual(self.parting(made(ring + turns), made(ring + turns)), None)
        # A number that is in a circle in one plan only, and another one that leads there in both.
        one = [("300", 0, "301"), ("301", 0, "300"), ("302", 0, "300"), ("303", 0, "302")]
        other = [("300", 0, "302"), ("301", 0, "300"), ("302", 0, "300"), ("303", 0, "302")]
        self.assertEqual(self.parting(made(one), made(other)), (0, "301"))
        rest = chain(range(60))
        self.assertEqual(self.parting(made(rest + one), made(rest + other)), (0, "301"))

    def test_no_long_time(self):
        """Long plans, one behind the other: a small part of what going through all forwards anew would take."""
        holds = [(name(400), 0, "ann", None)]
        plans = [made(chain(seconds), holds) for seconds in orders(400)]
        plans += [made(chain(seconds) + [(name(399), END, name(0))], holds) for seconds in orders(399)]
        begin = time.perf_counter()
        for _ in range(5):
            for plan in plans:
                first_circle(plan)
                plans_part(plan, plan)
        self.assertLess(time.perf_counter() - begin, 40 * 0.03)


if __name__ == "__main__":
    unittest.main()
