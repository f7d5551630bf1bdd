import itertools
import random
import unittest

import reference
from eachsecond.plans import first_circle, holder, is_plan, plans_part, ring
from samples import as_lists, plain

NUMBERS = ("10", "11", "12", "100", "101", "110", "1000", "1100")
SECONDS = (0, 3, 4, 7, 10 ** 8)
BETWEEN = (0, 1, 2, 3, 4, 5, 7, 8, 10 ** 8 - 1, 10 ** 8)
BLOCKS = (
    (), (("1", 3, "north"),), (("1", 4, "north"),), (("10", 3, "north"), ("11", 3, "south")),
    (("10", 4, "south"), ("11", 3, "north"), ("2", 3, "north")),
)


def random_plan(chance):
    keys = [(number, second) for number in NUMBERS for second in SECONDS]
    most = chance.choice((3, 8, 20))
    holds = sorted(chance.sample([key for key in keys if len(key[0]) > 2], chance.randint(0, most)))
    forwards = sorted(chance.sample(keys, chance.randint(0, most)))
    return (
        chance.choice(BLOCKS),
        tuple(key + (chance.choice(("ann", "bob", None)), chance.choice(("west", "north", None))) for key in holds),
        tuple(key + (chance.choice(NUMBERS + (None, None)),) for key in forwards),
    )


def near(plan, chance):
    """The plan, with one of its rows left out or another at its place."""
    part = chance.choice((1, 2))
    rows = list(plan[part])
    if rows:
        at = chance.randrange(len(rows))
        if chance.random() < 0.5:
            del rows[at]
        elif part == 1:
            rows[at] = rows[at][:2] + (chance.choice(("ann", "bob", None)), chance.choice(("west", None)))
        else:
            rows[at] = rows[at][:2] + (chance.choice(NUMBERS + (None,)),)
    return plan[:part] + (tuple(rows),) + plan[part + 1:]


class SmallPlanTest(unittest.TestCase):

    def test_all_forwards_of_three_numbers(self):
        """Each way to forward three numbers among themselves, to nowhere or not at all, with each other one."""
        numbers = ("20", "100", "101")
        told = []
        for targets in itertools.product(numbers + (None, "30"), repeat=3):
            forwards = sorted((number, 6, to) for number, to in zip(numbers, targets))
            plan = ((("1", 3, "north"),), (("100", 0, "ann", None),), tuple(forwards))
            told.append((plan, {number: reference.ring(plan, number, 6) for number in numbers}))
        for (one, here), (other, there) in itertools.product(told, repeat=2):
            parting = [number for number in numbers if here[number] != there[number]]
            self.assertEqual(plans_part(one, other), (6, parting[0]) if parting else None, (one, other))


class RandomPlanTest(unittest.TestCase):

    def setUp(self):
        self.chance = random.Random(20261119)

    def test_rings_and_holders(self):
        for _ in range(120):
            plan = random_plan(self.chance)
            self.assertTrue(is_plan(plan))
            for number, second in itertools.product(NUMBERS + ("13", "1110"), BETWEEN):
                expected = reference.ring(plan, number, second)
                self.assertEqual(ring(plan, number, second), expected, (plan, number, second))
                held = reference.holder(plan, number, second)
                self.assertEqual(holder(plan, number, second), held, (plan, number, second))
                self.assertTrue(plain(expected) and plain(held))

    def test_first_circles(self):
        circles = 0
        for _ in range(250):
            plan = random_plan(self.chance)
            expected = reference.first_circle(plan, SECONDS, NUMBERS)
            self.assertEqual(first_circle(plan), expected, plan)
            self.assertEqual(first_circle(as_lists(plan)), expected, plan)
            circles += expected is not None
        self.assertTrue(50 < circles < 200, circles)

    def test_plans_that_part(self):
        alike = 0
        for _ in range(250):
            one = random_plan(self.chance)
            other = self.chance.choice((one, near(one, self.chance), random_plan(self.chance)))
            expected = reference.plans_part(one, other, SECONDS, NUMBERS)
            self.assertEqual(plans_part(one, other), expected, (one, other))
            self.assertEqual(plans_part(as_lists(other), one), expected, (one, other))
            alike += expected is None
        self.assertTrue(50 < alike < 200, alike)


if __name__ == "__main__":
    unittest.main()
