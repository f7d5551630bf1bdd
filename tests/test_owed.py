import unittest

from eachsecond.carriers import payments, settles
from house_samples import RATES, built, piece
from samples import one_band

BLOCKS = (("4", 4, "north"), ("50", 5, "south"))
HELD = (("hold", ("4000", 0), 0, ("ann", None)), ("hold", ("50123", 0), 0, ("bob", None)))
# north owes south 3, south owes north 5, north owes east 7 and east north 11 for each second.
ARGUMENTS = (one_band(), BLOCKS, RATES, 1000, 0)


def owed(*facts, arguments=ARGUMENTS):
    found = built(HELD + facts, arguments).owed()
    return {carrier: money for carrier, money in found if money}


class OwedTest(unittest.TestCase):

    def test_all_carriers_of_blocks_holds_and_rates(self):
        rates = (("f", "e", 5), ("y", "z", 1))
        house = built(HELD + (("hold", ("4000", 5), 0, (None, "w")), ("hold", ("60000", 5), 0, ("ann", "v")),
                              ("hold", ("4000", 7), 0, None), ("hold", ("4001", 7), 0, ("ann", "u")),
                              ("hold", ("4001", 7), 1, ("ann", None)), ("uses", ("ann", 0), 0, "plain")),
                      ARGUMENTS[:2] + (rates,) + ARGUMENTS[3:])
        self.assertEqual(house.owed(), tuple((name, 0) for name in ("e", "f", "north", "south", "v", "w", "y", "z")))
        self.assertEqual(built((), (one_band(), (), (), 1000, 0)).owed(), ())

    def test_the_caller_s_carrier_owes(self):
        self.assertEqual(owed(piece("c", 0, 10, dialled="50123")), {"north": -30, "south": 30})
        self.assertEqual(owed(piece("c", 0, 10, caller="50123", dialled="4000")), {"north": 50, "south": -50})
        self.assertEqual(built(HELD + (piece("c", 0, 10, dialled="50123"),), ARGUMENTS).owed(),
                         (("east", 0), ("north", -30), ("south", 30)))

    def test_a_carrier_that_owes_itself(self):
        self.assertEqual(owed(piece("c", 0, 10, dialled="4000")), {})
        self.assertEqual(owed(("hold", ("4001", 0), 0, ("bob", "north")), piece("c", 0, 10, dialled="4001")), {})
        self.assertEqual(owed(("hold", ("50123", 0), 1, ("bob", "north")), piece("c", 0, 10, dialled="50123")), {})

    def test_customers_with_names_of_carriers(self):
        self.assertEqual(owed(("hold", ("4000", 0), 1, ("south", None)), ("hold", ("50123", 0), 1, ("north", None)),
                              piece("c", 0, 10, dialled="50123")), {"north": -30, "south": 30})

    def test_rates_that_are_not_there(self):
        self.assertEqual(owed(("hold", ("4000", 0), 1, ("ann", "west")), piece("c", 0, 10, dialled="50123")), {})
        self.assertEqual(owed(("hold", ("50123", 0), 1, ("bob", "west")), piece("c", 0, 10, dialled="50123")), {})
        self.assertEqual(owed(piece("c", 0, 10, dialled="50123"), arguments=ARGUMENTS[:2] + (RATES[-1:],)
                              + ARGUMENTS[3:]), {})

    def test_a_caller_that_is_not_held(self):
        for caller in ("4001", "60000", "50124"):
            self.assertEqual(owed(piece("c", 0, 10, caller=caller, dialled="50123")), {})
        self.assertEqual(owed(("hold", ("4000", 4), 0, (None, "east")), ("hold", ("4000", 6), 0, ("cy", "east")),
                              ("hold", ("4000", 9), 0, ("cy", None)), ("hold", ("50123", 5), 0, ("bob", "north")),
                              piece("c", 2, 9, caller="4000", dialled="50123")),
                         {"north": -12, "south": 12})

    def test_each_second_by_its_own_carrier(self):
        self.assertEqual(owed(("hold", ("4000", 6), 0, ("cy", "east")), ("hold", ("50123", 0), 1, ("bob", "north")),
                              piece("c", 2, 9, caller="4000", dialled="50123")), {"east": -55, "north": 55})
        self.assertEqual(owed(("hold", ("4000", 6), 0, ("ann", "east")), ("hold", ("50123", 0), 1, ("bob", "north")),
                              ("hold", ("4000", 8), 0, (None, None)), piece("c", 2, 9, dialled="50123")),
                         {"east": -22, "north": 22})

    def test_where_nothing_rings(self):
        for dialled in ("4001", "11", "60000"):
            self.assertEqual(owed(piece("c", 0, 10, dialled=dialled)), {})
        self.assertEqual(owed(("forward", ("50123", 0), 0, ("11",)), ("forward", ("11", 0), 0, ("50123",)),
                              piece("c", 0, 10, dialled="50123"), piece("d", 0, 10, dialled="11")), {})

    def test_forwarded_numbers(self):
        forward = ("forward", ("11", 0), 0, ("50123",))
        self.assertEqual(owed(forward, piece("c", 0, 10, dialled="11")), {"north": -30, "south": 30})
        self.assertEqual(owed(forward, ("forward", ("50123", 0), 0, ("4000",)), piece("c", 0, 10, dialled="11")), {})
        self.assertEqual(owed(("forward", ("4000", 0), 0, ("50123",)), piece("c", 0, 10, dialled="50123")),
                         {"north": -30, "south": 30})

    def test_the_ring_at_the_beginning_of_the_call(self):
        late = ("forward", ("11", 100), 0, ("50123",))
        self.assertEqual(owed(late, piece("c", 99, 10, dialled="11")), {})
        self.assertEqual(owed(late, piece("c", 100, 10, dialled="11")), {"north": -30, "south": 30})
        early = (("forward", ("11", 0), 0, ("50123",)), ("forward", ("11", 100), 0, (None,)))
        self.assertEqual(owed(*early, piece("c", 99, 10, dialled="11")), {"north": -30, "south": 30})
        self.assertEqual(owed(*early, piece("c", 100, 10, dialled="11")), {})

    def test_the_least_begin_of_the_pieces_that_count(self):
        late = ("forward", ("11", 100), 0, ("50123",))
        two = piece("c", 200, 10, 0, dialled="11"), piece("c", 99, 1, 1, dialled="4000")
        self.assertEqual(owed(late, *two), {})
        self.assertEqual(owed(late, *two[:1]), {"north": -30, "south": 30})
        self.assertEqual(owed(late, *two, ("piece", ("c", 1), 1, None)), {"north": -30, "south": 30})
        self.assertEqual(owed(late, *two, piece("c", 100, 1, 1, dialled="4000", version=1)), {"north": -30, "south": 30})
        # A piece of no second, and one whose caller nobody holds, have a begin too.
        self.assertEqual(owed(late, two[0], piece("c", 99, 0, 7)), {})
        self.assertEqual(owed(late, two[0], piece("c", 99, 5, 7, caller="60000")), {})
        self.assertEqual(owed(late, two[0], piece("d", 99, 1, 1)), {"north": -30, "south": 30})

    def test_each_piece_has_its_own_dialled_number(self):
        self.assertEqual(owed(piece("c", 0, 10, 0, dialled="50123"), piece("c", 50, 4, 1, dialled="4000"),
                              piece("c", 80, 2, 2, dialled="50123"), piece("c", 0, 1, 3, caller="50123", dialled="4000")),
                         {"north": -36 + 5, "south": 36 - 5})

    def test_who_holds_the_dialled_number_later_does_not_matter(self):
        self.assertEqual(owed(("hold", ("50123", 5), 0, ("bob", "east")), piece("c", 0, 10, dialled="50123")),
                         {"north": -30, "south": 30})

    def test_above_the_last_second(self):
        self.assertEqual(owed(("hold", ("4000", 10 ** 8), 0, (None, None)), piece("c", 10 ** 8 - 5, 10, dialled="50123")),
                         {"north": -15, "south": 15})
        self.assertEqual(owed(piece("c", 10 ** 8, 10 ** 6, dialled="50123")),
                         {"north": -3 * 10 ** 6, "south": 3 * 10 ** 6})

    def test_settled_by_payments(self):
        house = built(HELD + (piece("c", 0, 10, dialled="50123"), piece("d", 0, 2, caller="50123", dialled="4000")),
                      ARGUMENTS)
        self.assertEqual(payments(house.owed()), (("north", "south", 20),))
        self.assertTrue(settles(house.owed(), payments(house.owed())))


if __name__ == "__main__":
    unittest.main()
