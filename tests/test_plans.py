import unittest

import reference
from calls import CallChecks, position
from eachsecond.plans import first_circle, holder, holder_at, is_plan, plans_part, ring, ring_at
from samples import STRANGE, as_lists, mixed, places, plain, put

PLAN = ((("40", 5, "north"),), (("40123", 0, "ann", None),), (("11", 0, "40123"),))
EMPTY = ((), (), ())
LAST = 10 ** 8


def with_blocks(*blocks):
    return (blocks, (), ())


def with_holds(*holds):
    return ((("4", 3, "north"),), holds, ())


def with_forwards(*forwards):
    return ((), (), forwards)


def chain(length, begin=0, end=None):
    """Forwards from 100000 on, each to the next number, the last one to end if it is given."""
    numbers = [str(100000 + k) for k in range(length)]
    following = numbers[1:] + [end or str(100000 + length)]
    return tuple((number, begin, to) for number, to in zip(numbers, following))


class PlanCallTest(CallChecks, unittest.TestCase):
    CALLS = (
        (ring, "plan number second", (PLAN, "11", 5)),
        (holder, "plan number second", (PLAN, "40123", 5)),
        (first_circle, "plan", (with_forwards(("11", 3, "12"), ("12", 4, "11")),)),
        (plans_part, "one other", (PLAN, EMPTY)),
    )

    def test_is_plan_by_name(self):
        self.assertIs(is_plan(value=PLAN), True)

    def test_numbers_of_all_lengths(self):
        for function in (ring, holder):
            for good in ("00", "12", "123", "1234", "12345", "123456", "1234567", "00000000"):
                self.assertIsNone(position(function, (PLAN, good, 0)))
            for bad in ("", "1", "123456789", "1a", "a1", "12 ", "-1", "1\n", 12, 123, None, ["12"], ("1", "2")):
                self.assertEqual(position(function, (PLAN, bad, 0)), 1)

    def test_seconds(self):
        for function in (ring, holder):
            for good in (0, 1, LAST - 1, LAST):
                self.assertIsNone(position(function, (PLAN, "12", good)))
            for bad in (-1, LAST + 1, True, False, None, "1", "", (1,), [0]):
                self.assertEqual(position(function, (PLAN, "12", bad)), 2)

    def test_plans_that_are_none_are_refused(self):
        bad = with_holds(("401", 0, "ann", "Bob"))
        self.assertEqual(position(ring, (bad, "x", -1)), 0)
        self.assertEqual(position(holder, (bad, "x", -1)), 0)
        self.assertEqual(position(first_circle, (bad,)), 0)
        self.assertEqual(position(plans_part, (bad, bad)), 0)
        self.assertEqual(position(plans_part, (PLAN, bad)), 1)


class IsPlanTest(unittest.TestCase):

    def taken(self, *values):
        for value in values:
            for form in (value, as_lists(value), mixed(value)):
                self.assertIs(is_plan(form), True, repr(value)[:200])

    def refused(self, *values):
        for value in values:
            for form in (value, as_lists(value), mixed(value)):
                self.assertIs(is_plan(form), False, repr(value)[:200])

    def test_ordinary(self):
        self.taken(EMPTY, PLAN)
        self.refused(PLAN[:2], PLAN + ((),), PLAN[0], "abc", None)

    def test_block(self):
        self.taken(with_blocks(("1", 3, "a")), with_blocks(("12", 3, "abcdefgh")), with_blocks(("0123456", 8, "z")))
        self.refused(with_blocks(("123", 3, "a")), with_blocks(("12345678", 8, "a")), with_blocks(("", 3, "a")))
        self.refused(with_blocks(("1", 2, "a")), with_blocks(("1", 9, "a")), with_blocks(("1", True, "a")))
        self.refused(with_blocks(("1", 3, "")), with_blocks(("1", 3, "abcdefghi")), with_blocks(("1", 3, "A")))
        self.refused(with_blocks(("1", 3, None)), with_blocks((1, 3, "a")), with_blocks(("1", "3", "a")))
        self.refused(with_blocks(("x", 3, "a")), with_blocks(("1", 3)), with_blocks(("1", 3, "a", "b")))
        self.refused(with_blocks("13a"), with_blocks(None), with_blocks((["1"], 3, "a")))

    def test_blocks_ascend(self):
        self.taken(with_blocks(("1", 5, "b"), ("2", 3, "a")), with_blocks(("10", 3, "b"), ("2", 3, "a")))
        self.refused(with_blocks(("2", 3, "a"), ("1", 3, "a")), with_blocks(("1", 3, "a"), ("1", 3, "a")))

    def test_no_prefix_begins_with_another_one(self):
        self.taken(with_blocks(("12", 4, "a"), ("13", 4, "b")), with_blocks(("1", 4, "a"), ("21", 4, "b")))
        self.refused(with_blocks(("1", 4, "a"), ("12", 4, "b")), with_blocks(("1", 3, "a"), ("12", 8, "b")))
        self.refused(with_blocks(("1", 3, "a"), ("1", 4, "a")), with_blocks(("1", 3, "a"), ("1", 3, "b")))
        self.refused(with_blocks(("12", 4, "a"), ("1", 4, "b")))
        self.refused(with_blocks(("1", 4, "a"), ("105", 4, "b"), ("2", 4, "c")))
        self.refused(with_blocks(("0", 4, "a"), ("1", 4, "a"), ("123", 5, "b"), ("2", 4, "c")))

    def test_hold(self):
        self.taken(with_holds(("100", 0, "ann", "south")), with_holds(("12345678", LAST, None, None)))
        self.taken(with_holds(("100", 0, None, "south")), with_holds(("100", 0, "ann", None)))
        self.refused(with_holds(("10", 0, "ann", None)), with_holds(("123456789", 0, "ann", None)))
        self.refused(with_holds(("100", -1, "ann", None)), with_holds(("100", LAST + 1, "ann", None)))
        self.refused(with_holds(("100", True, "ann", None)), with_holds(("100", None, "ann", None)))
        self.refused(with_holds(("100", 0, "", None)), with_holds(("100", 0, "ann", "")))
        self.refused(with_holds(("100", 0, "100", None)), with_holds(("100", 0, "ann", False)))
        self.refused(with_holds(("100", 0, "ann")), with_holds(("100", 0, "ann", None, None)))
        self.refused(with_holds((None, 0, "ann", None)), with_holds("100a"))

    def test_forward(self):
        self.taken(with_forwards(("10", 0, "12345678")), with_forwards(("12345678", LAST, None)))
        self.taken(with_forwards(("10", 0, "10")))
        self.refused(with_forwards(("1", 0, "12")), with_forwards(("12", 0, "1")), with_forwards(("12", 0, "")))
        self.refused(with_forwards(("12", -1, None)), with_forwards(("12", LAST + 1, None)))
        self.refused(with_forwards(("12", 0, "ann")), with_forwards(("12", 0, False)), with_forwards(("12", 0)))
        self.refused(with_forwards(("12", 0, None, None)), with_forwards((None, 0, "12")))

    def test_holds_ascend(self):
        one, two, three = ("100", 7, "b", None), ("100", 8, "a", None), ("1000", 0, "a", None)
        self.taken(with_holds(one, two, three), with_holds(("1000", 5, "a", None), ("101", 5, "a", None)))
        self.refused(with_holds(two, one), with_holds(one, three, two), with_holds(three, one))
        self.refused(with_holds(one, one), with_holds(one, ("100", 7, "c", None)))
        self.refused(with_holds(one, ("100", 7, None, None)), with_holds(("100", 7, None, None), one))
        self.refused(with_holds(("101", 5, "a", None), ("1000", 5, "a", None)))

    def test_forwards_ascend(self):
        one, two, three = ("10", 7, None), ("10", 8, "55"), ("100", 0, "44")
        self.taken(with_forwards(one, two, three), with_forwards(("100", 5, "44"), ("11", 5, "44")))
        self.refused(with_forwards(two, one), with_forwards(one, three, two), with_forwards(three, one))
        self.refused(with_forwards(one, one), with_forwards(one, ("10", 7, "44")))
        self.refused(with_forwards(("11", 5, "44"), ("100", 5, "44")))

    def test_the_most_members_and_one_more(self):
        blocks = tuple((str(k), 3 + k % 6, "a") for k in range(9))
        holds = tuple((str(1000 + k // 2), k, "a", None) for k in range(401))
        self.taken((blocks[:8], holds[:400], chain(400)))
        self.refused((blocks, (), ()), ((), holds, ()), ((), (), chain(401)))

    def test_strange_values(self):
        for strange in STRANGE:
            self.assertIs(is_plan(strange), False, repr(strange)[:60])

    def test_strange_values_at_every_place(self):
        value = ((("1", 4, "a"), ("2", 5, "b")), (("1000", 5, "ann", None), ("1000", 6, None, "b")),
                 (("10", 5, "11"), ("11", 6, None)))
        for at in places(value):
            for strange in STRANGE + ("10", "99", 5, 6, 7, "c", "1", "13"):
                changed = put(value, at, strange)
                self.assertIs(is_plan(changed), reference.plan(changed), f"{at} {strange!r:.60}")


class RingTest(unittest.TestCase):

    def test_the_document_s_example(self):
        self.assertEqual(ring(PLAN, "11", 5), ("rings", "40123", "ann", "north"))

    def test_plain_tuples_are_returned(self):
        plan = (PLAN[0], PLAN[1], (("11", 0, "40123"), ("12", 0, "12"), ("13", 0, "14")))
        for form in (plan, as_lists(plan)):
            for number in ("11", "12", "13", "14", "40123"):
                self.assertTrue(plain(ring(form, number, 0)))
            self.assertTrue(plain(holder(form, "40123", 0)))

    def test_nothing_rings_in_an_empty_plan(self):
        self.assertEqual(ring(EMPTY, "12", 0), ("nowhere", "12"))
        self.assertEqual(ring(EMPTY, "12345678", LAST), ("nowhere", "12345678"))
        self.assertIsNone(holder(EMPTY, "12345678", LAST))

    def test_a_number_is_in_a_block_of_its_length_and_prefix(self):
        for number, customer in (("4012", None), ("40123", "ann"), ("401234", None), ("41123", None)):
            plan = (PLAN[0], ((number, 0, "ann", None),), ())
            expected = None if customer is None else ("ann", "north")
            self.assertEqual(holder(plan, number, 3), expected)
            ends = ("nowhere", number) if customer is None else ("rings", number, "ann", "north")
            self.assertEqual(ring(plan, number, 3), ends)

    def test_the_block_s_carrier_serves_if_the_hold_tells_none(self):
        plan = ((("40", 4, "north"), ("41", 4, "south")), (
            ("4000", 0, "ann", None), ("4000", 5, "ann", "west"), ("4000", 9, "bob", None),
            ("4100", 0, "ann", None)), ())
        self.assertEqual([holder(plan, "4000", second) for second in (4, 5, 8, 9)],
                         [("ann", "north"), ("ann", "west"), ("ann", "west"), ("bob", "north")])
        self.assertEqual(ring(plan, "4100", 4), ("rings", "4100", "ann", "south"))

    def test_a_hold_in_no_block_is_none_even_with_a_carrier(self):
        plan = ((("4", 3, "north"),), (("500", 0, "ann", "west"),), ())
        self.assertIsNone(holder(plan, "500", 1))
        self.assertEqual(ring(plan, "500", 1), ("nowhere", "500"))

    def test_holds_at_the_very_second(self):
        plan = with_holds(("400", 0, "ann", None), ("400", 10, "bob", None), ("400", 20, None, "west"))
        told = {second: holder(plan, "400", second) for second in (0, 9, 10, 11, 19, 20, 21, LAST)}
        ann, bob = ("ann", "north"), ("bob", "north")
        self.assertEqual(told, {0: ann, 9: ann, 10: bob, 11: bob, 19: bob, 20: None, 21: None, LAST: None})
        self.assertIsNone(holder(with_holds(("400", 5, "ann", None)), "400", 4))
        self.assertEqual(holder(with_holds(("400", LAST, "ann", None)), "400", LAST), ann)
        self.assertIsNone(holder(with_holds(("400", LAST, "ann", None)), "400", LAST - 1))

    def test_seconds_above_the_end_of_time_have_holders_inside(self):
        plan = (PLAN[0], (("40123", LAST, "ann", None),), (("11", LAST, "40123"),))
        for second in (LAST, LAST + 1, LAST + 10 ** 6, 10 ** 12):
            self.assertEqual(holder_at(plan, "40123", second), ("ann", "north"))
            self.assertEqual(ring_at(plan, "11", second), ("rings", "40123", "ann", "north"))

    def test_forwards_at_the_very_second(self):
        plan = with_forwards(("11", 10, "22"), ("11", 20, "33"), ("11", 30, None))
        told = {second: ring(plan, "11", second)[1] for second in (0, 9, 10, 11, 19, 20, 21, 29, 30, 31)}
        self.assertEqual(told, {0: "11", 9: "11", 10: "22", 11: "22", 19: "22", 20: "33", 21: "33",
                                29: "33", 30: "11", 31: "11"})

    def test_a_forward_goes_ahead_of_a_hold(self):
        plan = PLAN[:2] + ((("40123", 5, "99"), ("40123", 8, None)),)
        told = [ring(plan, "40123", second) for second in (4, 5, 8)]
        held = ("rings", "40123", "ann", "north")
        self.assertEqual(told, [held, ("nowhere", "99"), held])
        self.assertEqual(holder(plan, "40123", 5), ("ann", "north"))

    def test_forwarding_leads_on(self):
        plan = PLAN[:2] + ((("11", 0, "12"), ("12", 0, "13"), ("13", 0, "40123"), ("14", 0, "15")),)
        self.assertEqual(ring(plan, "11", 0), ("rings", "40123", "ann", "north"))
        self.assertEqual(ring(plan, "13", 0), ("rings", "40123", "ann", "north"))
        self.assertEqual(ring(plan, "14", 0), ("nowhere", "15"))

    def test_circles(self):
        plan = with_forwards(("11", 0, "12"), ("12", 0, "13"), ("13", 0, "14"), ("14", 0, "12"), ("15", 0, "15"),
                             ("16", 0, "15"), ("17", 0, "16"))
        told = {number: ring(plan, number, 0) for number in ("11", "12", "13", "14", "15", "16", "17")}
        firsts = {"11": "12", "12": "12", "13": "13", "14": "14", "15": "15", "16": "15", "17": "15"}
        self.assertEqual(told, {number: ("circle", firsts[number]) for number in firsts})

    def test_long_chains(self):
        end = "100400"
        plan = ((("1", 6, "north"),), ((end, 0, "ann", None),), chain(400))
        self.assertEqual(ring(plan, "100000", 0), ("rings", end, "ann", "north"))
        self.assertEqual(ring(plan, "100399", 0), ("rings", end, "ann", "north"))
        self.assertIsNone(first_circle(plan))
        self.assertEqual(plans_part(plan, (plan[0], plan[1], chain(399))), (0, "100000"))
        round_about = ((), (), chain(400, 7, "100000"))
        self.assertEqual(ring(round_about, "100123", 7), ("circle", "100123"))
        self.assertEqual(first_circle(round_about), (7, "100000"))
        last_turns = ((), (), chain(400, 7, "100399"))
        self.assertEqual(ring(last_turns, "100000", 7), ("circle", "100399"))
        self.assertEqual(first_circle(last_turns), (7, "100000"))


class FirstCircleTest(unittest.TestCase):

    def test_none(self):
        self.assertIsNone(first_circle(EMPTY))
        self.assertIsNone(first_circle(PLAN))
        self.assertIsNone(first_circle(with_forwards(("11", 0, "12"), ("11", 5, None), ("12", 5, "11"))))

    def test_a_number_that_is_forwarded_to_itself(self):
        self.assertEqual(first_circle(with_forwards(("11", LAST, "11"))), (LAST, "11"))
        self.assertEqual(first_circle(with_forwards(("11", 0, "11"))), (0, "11"))

    def test_circles_that_come_up_and_go_away(self):
        plan = with_forwards(("11", 0, "12"), ("11", 9, None), ("11", 20, "12"), ("12", 5, "11"), ("12", 7, None))
        self.assertEqual(first_circle(plan), (5, "11"))
        told = [ring(plan, "11", second)[0] for second in (4, 5, 6, 7, 20)]
        self.assertEqual(told, ["nowhere", "circle", "circle", "nowhere", "nowhere"])

    def test_the_least_second_goes_ahead_of_the_least_number(self):
        plan = with_forwards(("11", 9, "11"), ("99999999", 8, "99999999"))
        self.assertEqual(first_circle(plan), (8, "99999999"))

    def test_numbers_are_ordered_by_length_first(self):
        plan = with_forwards(("100", 3, "100"), ("99", 3, "99"))
        self.assertEqual(first_circle(plan), (3, "99"))
        plan = with_forwards(("1000", 3, "1000"), ("998", 3, "999"), ("999", 3, "999"))
        self.assertEqual(first_circle(plan), (3, "998"))

    def test_the_numbers_that_only_lead_to_a_circle_count(self):
        plan = with_forwards(("10", 2, "20"), ("20", 2, "21"), ("21", 2, "20"))
        self.assertEqual(first_circle(plan), (2, "10"))

    def test_held_numbers_may_be_in_a_circle(self):
        plan = PLAN[:2] + ((("11", 0, "40123"), ("40123", 6, "11")),)
        self.assertEqual(first_circle(plan), (6, "11"))


class PlansPartTest(unittest.TestCase):

    def parts(self, one, other, expected):
        self.assertEqual(plans_part(one, other), expected)
        self.assertEqual(plans_part(other, one), expected)
        self.assertIsNone(plans_part(one, one))
        self.assertIsNone(plans_part(other, as_lists(other)))

    def test_alike(self):
        self.parts(EMPTY, EMPTY, None)
        self.parts(PLAN, as_lists(PLAN), None)
        self.parts(EMPTY, with_blocks(("1", 4, "a")), None)
        self.parts(EMPTY, with_forwards(("11", 5, None)), None)
        self.parts(with_holds(("400", 5, "ann", None)), with_holds(("400", 5, "ann", "north")), None)
        self.parts(with_holds(), with_holds(("400", 5, None, "west"), ("500", 5, "ann", "west")), None)
        self.parts(with_holds(("400", 5, "ann", None)),
                   with_holds(("400", 5, "ann", None), ("400", 8, "ann", None)), None)
        self.parts(with_forwards(("11", 5, "12")), with_forwards(("11", 5, "12"), ("11", 7, "12")), None)

    def test_one_way_round_or_another(self):
        one = with_forwards(("11", 5, "12"), ("12", 5, "13"))
        self.parts(one, with_forwards(("11", 5, "13"), ("12", 5, "13")), None)
        self.parts(one, with_forwards(("11", 5, "13"), ("12", 6, "13")), (5, "12"))

    def test_holds(self):
        one = with_holds(("400", 5, "ann", None))
        self.parts(one, EMPTY, (5, "400"))
        self.parts(one, with_holds(("400", 5, "bob", None)), (5, "400"))
        self.parts(one, with_holds(("400", 5, "ann", "west")), (5, "400"))
        self.parts(one, with_holds(("400", 7, "ann", None)), (5, "400"))
        self.parts(one, with_holds(("400", 5, "ann", None), ("400", LAST, None, None)), (LAST, "400"))
        self.parts(one, ((("4", 3, "west"),), one[1], ()), (5, "400"))
        self.parts(one, ((("4", 4, "north"),), one[1], ()), (5, "400"))

    def test_forwards(self):
        self.parts(EMPTY, with_forwards(("11", 0, "12")), (0, "11"))
        self.parts(EMPTY, with_forwards(("11", 0, None), ("11", 3, "12")), (3, "11"))
        self.parts(with_forwards(("11", 3, "12")), with_forwards(("11", 3, "13")), (3, "11"))

    def test_a_difference_shows_as_soon_as_it_leads_there(self):
        one, other = PLAN, (PLAN[0], (("40123", 0, "bob", None),), PLAN[2])
        self.parts(one, other, (0, "11"))
        hidden = (("40123", 0, "50"), ("40123", 9, None))
        self.parts((PLAN[0], one[1], hidden), (PLAN[0], other[1], hidden), (9, "40123"))

    def test_circles_part_from_nowhere_and_from_one_another(self):
        one = with_forwards(("11", 0, "12"), ("12", 4, "11"))
        self.parts(one, with_forwards(("11", 0, "12")), (4, "11"))
        around = with_forwards(("11", 0, "12"), ("12", 0, "11"))
        self.parts(around, with_forwards(("11", 0, "11"), ("12", 0, "11")), (0, "12"))
        self.parts(around, with_forwards(("11", 0, "12"), ("12", 0, "12")), (0, "11"))
        entry = with_forwards(("11", 0, "12"), ("12", 0, "13"), ("13", 0, "12"))
        self.parts(entry, with_forwards(("11", 0, "13"), ("12", 0, "13"), ("13", 0, "12")), (0, "11"))
        longer = with_forwards(("11", 0, "12"), ("12", 0, "14"), ("13", 0, "12"), ("14", 0, "13"))
        self.parts(entry, longer, (0, "14"))

    def test_numbers_are_ordered_by_length_first(self):
        one = with_forwards(("100", 3, "20"), ("99", 3, "20"))
        self.parts(one, EMPTY, (3, "99"))
        self.parts(one, with_forwards(("99", 3, "20")), (3, "100"))
        self.parts(with_holds(("4000", 2, "ann", None), ("450", 2, "ann", None)),
                   ((("4", 4, "north"),), (), ()), (2, "450"))

    def test_the_least_second_goes_ahead_of_the_least_number(self):
        self.parts(EMPTY, with_forwards(("11", 9, "12"), ("998", 8, "12")), (8, "998"))

    def test_the_most_holds_and_forwards(self):
        """Plans as large as they may be, alike at all their 1,598 seconds but the last one."""
        def large(begin, last):
            holds = [("4100000", 0, "ann", None)]
            holds += [("4100000", 4 * k + begin, "ann", None) for k in range(1, 400)]
            moves = [(str(4000000 + k), 0, str(4000001 + k)) for k in range(200)]
            moves += [("4000200", 0, "4100000")]
            moves += [("4000200", 4 * k + begin + 2, "4100000") for k in range(1, 198)]
            moves += [("4000200", 10 ** 6, "4100000"), ("4000201", LAST, last)]
            return ((("4", 7, "north"),), tuple(holds), tuple(moves))
        self.parts(large(0, "12"), large(1, "12"), None)
        self.parts(large(0, "12"), large(1, "13"), (LAST, "4000201"))


if __name__ == "__main__":
    unittest.main()
