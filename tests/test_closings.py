import unittest

from eachsecond.errors import NotNow
from house_samples import ANN, SIMPLE, built, closings, piece, simple, state

BOB = (("hold", ("4001", 0), 0, ("bob", None)), ("uses", ("bob", 0), 0, "plain"))


def total(seconds, setups=1):
    """The total of a bill of far seconds, with a tax of 100."""
    net = 50 * setups + 4 * seconds
    return net + (net * 100 + 500) // 1000


class CloseTest(unittest.TestCase):

    def test_numbers_of_cycles(self):
        house = simple()
        self.assertEqual([house.close() for _ in range(200)], list(range(200)))
        before = state(house)
        for _ in range(2):
            with self.assertRaises(NotNow):
                house.close()
        self.assertEqual(state(house), before)
        self.assertEqual(len(house.log()), 1 + 3 + 200)
        self.assertEqual(house.invoices(), ())

    def test_who_gets_an_invoice(self):
        house = simple(piece("c", 0, 10), piece("d", 1000, 20, caller="4001"), *BOB)
        self.assertEqual(house.close(), 0)
        self.assertEqual(house.invoices(), (("ann", 0, total(10), ()),))
        house.close()
        self.assertEqual(house.invoices(), (("ann", 0, total(10), ()), ("bob", 1, total(20), ())))
        house.close()
        self.assertEqual(len(house.invoices()), 2)

    def test_those_of_one_closing_ascend_by_customer(self):
        house = built((("hold", ("4002", 0), 0, ("a", None)), ("hold", ("4001", 0), 0, ("zoe", None)),
                       ("hold", ("4000", 0), 0, ("bob", None)), ("uses", ("a", 0), 0, "plain"),
                       ("uses", ("zoe", 0), 0, "plain"), ("uses", ("bob", 0), 0, "plain"), ANN[2],
                       piece("c", 0, 3, caller="4001"), piece("d", 0, 2), piece("e", 1001, 1, caller="4002")), SIMPLE)
        house.close()
        self.assertEqual([invoice[0] for invoice in house.invoices()], ["bob", "zoe"])
        house.tell(piece("f", 5, 5, caller="4002"))
        house.tell(piece("g", 1000, 5, caller="4001"))
        house.close()
        self.assertEqual(house.invoices()[2:], (
            ("a", 1, total(1), ((0, total(5)),)), ("zoe", 1, total(5), ())))

    def test_bills_of_nothing_get_none(self):
        house = simple(piece("c", 0, 10), ("tariff", ("plain", 0), 1, (0, (("", "far"),), ())))
        house.close()
        self.assertEqual(house.invoices(), ())
        self.assertEqual(house.invoiced("ann", 0), 0)

    def test_invoiced_and_balance(self):
        house = simple(piece("c", 0, 10), piece("d", 1000, 20, caller="4001"), *BOB)
        self.assertEqual((house.invoiced("ann", 0), house.balance("ann")), (0, 0))
        house.close()
        self.assertEqual((house.invoiced("ann", 0), house.balance("ann")), (total(10), total(10)))
        self.assertEqual((house.invoiced("bob", 0), house.invoiced("bob", 1), house.balance("bob")), (0, 0, 0))
        house.close()
        self.assertEqual((house.invoiced("ann", 1), house.invoiced("bob", 1)), (0, total(20)))
        self.assertEqual((house.invoiced("bob", 2), house.invoiced("bob", 200000)), (0, 0))
        self.assertEqual((house.balance("ann"), house.balance("bob")), (total(10), total(20)))

    def test_the_bill_of_an_open_cycle_is_not_invoiced(self):
        house = simple(piece("c", 1000, 10))
        house.close()
        self.assertEqual((house.invoices(), house.balance("ann")), ((), 0))
        self.assertEqual(house.bill("ann", 1)[3], total(10))


class CorrectionTest(unittest.TestCase):

    def test_a_late_piece(self):
        house = simple(piece("c", 0, 10))
        house.close()
        before = house.invoices()
        house.tell(piece("d", 5, 20))
        self.assertEqual((house.invoices(), house.invoiced("ann", 0), house.balance("ann")),
                         (before, total(10), total(10)))
        self.assertEqual(house.bill("ann", 0)[3], total(30, 2))
        house.close()
        self.assertEqual(house.invoices(), before + (("ann", 1, 0, ((0, total(30, 2) - total(10)),)),))
        self.assertEqual((house.invoiced("ann", 0), house.invoiced("ann", 1)), (total(30, 2), 0))
        self.assertEqual(house.balance("ann"), total(30, 2))

    def test_a_late_piece_of_a_customer_without_an_invoice(self):
        house = simple(*BOB)
        house.close()
        house.close()
        house.tell(piece("d", 5, 20, caller="4001"))
        house.tell(piece("e", 1990, 20, caller="4001"))
        house.close()
        self.assertEqual(house.invoices(), (
            ("bob", 2, total(10, 0), ((0, total(20)), (1, total(10)))),))

    def test_corrections_above_and_below_nought_and_corrected_again(self):
        house = simple(piece("c", 0, 10), piece("d", 1000, 10))
        house.close()
        house.close()
        house.tell(piece("c", 0, 4, version=1))
        house.tell(piece("d", 1000, 16, version=1))
        house.close()
        self.assertEqual(house.invoices()[2:], (
            ("ann", 2, 0, ((0, total(4) - total(10)), (1, total(16) - total(10)))),))
        house.tell(piece("c", 0, 5, version=2))
        house.close()
        self.assertEqual(house.invoices()[3:], (("ann", 3, 0, ((0, total(5) - total(4)),)),))
        house.tell(("piece", ("c", 0), 3, None))
        house.tell(("piece", ("d", 0), 2, None))
        house.close()
        self.assertEqual(house.invoices()[4:], (("ann", 4, 0, ((0, -total(5)), (1, -total(16)))),))
        self.assertEqual((house.balance("ann"), house.invoiced("ann", 0), house.invoiced("ann", 1)), (0, 0, 0))
        house.close()
        self.assertEqual(len(house.invoices()), 5)

    def test_what_comes_back_before_the_next_closing_corrects_nothing(self):
        house = simple(piece("c", 0, 10))
        house.close()
        house.tell(piece("c", 0, 99, version=1))
        house.tell(piece("c", 0, 10, version=2))
        house.close()
        self.assertEqual(len(house.invoices()), 1)
        house.tell(piece("c", 10, 10, version=3))
        house.close()
        self.assertEqual(len(house.invoices()), 1)

    def test_a_piece_that_moves_to_another_cycle(self):
        house = simple(piece("c", 0, 10))
        for _ in range(3):
            house.close()
        house.tell(piece("c", 1995, 10, version=1))
        house.close()
        self.assertEqual(house.invoices()[1:], (
            ("ann", 3, 0, ((0, -total(10)), (1, total(5)), (2, total(5, 0)))),))

    def test_customers_that_vanish(self):
        house = simple(piece("c", 0, 10))
        house.close()
        house.tell(("hold", ("4000", 0), 1, ("bob", None)))
        house.tell(("uses", ("ann", 0), 1, None))
        house.tell(("uses", ("bob", 0), 0, "plain"))
        self.assertEqual(house.customers(), ("bob",))
        house.close()
        self.assertEqual(house.invoices()[1:], (
            ("ann", 1, 0, ((0, -total(10)),)), ("bob", 1, 0, ((0, total(10)),))))
        self.assertEqual((house.balance("ann"), house.balance("bob")), (0, total(10)))
        house.tell(("hold", ("4000", 0), 2, None))
        house.tell(("uses", ("bob", 0), 1, None))
        self.assertEqual(house.customers(), ())
        house.close()
        self.assertEqual(house.invoices()[3:], (("bob", 2, 0, ((0, -total(10)),)),))
        house.tell(("hold", ("4000", 0), 3, ("ann", None)))
        house.tell(("uses", ("ann", 0), 2, "plain"))
        house.close()
        self.assertEqual(house.invoices()[4:], (("ann", 3, 0, ((0, total(10)),)),))

    def test_each_kind_of_late_fact(self):
        odd = (3, (("", "far"),), (("far", "low", 10),))
        # Net is 50 + 5 * 4 + 5 * 10 with the other tariff, which is 132 with the tax.
        for fact, now in (
                (("hold", ("4000", 1005), 0, ("bob", None)), total(5)), (("uses", ("ann", 1005), 0, "lost"), total(5)),
                (("tariff", ("plain", 1005), 0, odd), 132),
                (("bundle", ("ann", 1, "x"), 0, (5, ("far",), ("low",))), total(5))):
            house = simple(piece("c", 990, 10), piece("d", 1000, 10))
            house.close()
            house.close()
            house.tell(fact)
            house.close()
            self.assertEqual([row for row in house.invoices()[2:] if row[0] == "ann"],
                             [("ann", 2, 0, ((1, now - total(10)),))], fact)

    def test_a_late_forward_corrects_nothing(self):
        house = simple(piece("c", 990, 10))
        house.close()
        house.tell(("forward", ("5000", 0), 0, ("4000",)))
        house.tell(("forward", ("4000", 0), 0, ("4001",)))
        house.close()
        self.assertEqual(len(house.invoices()), 1)

    def test_facts_of_the_very_first_and_last_seconds_of_closed_cycles(self):
        for second, corrected in ((0, [0, 1]), (999, [0, 1]), (1000, [1]), (1999, [1]), (2000, [])):
            house = simple(piece("c", 0, 2000))
            house.close()
            house.close()
            house.tell(("hold", ("4000", second), 5, ("bob", None)))
            house.close()
            told = {row[0]: [pair[0] for pair in row[3]] for row in house.invoices()[2:]}
            self.assertEqual(told.get("ann", []), corrected, second)

    def test_the_bill_of_the_closed_cycle_counts_late_facts_too(self):
        house = simple(piece("c", 1000, 10))
        house.close()
        house.tell(piece("d", 1000, 20))
        house.close()
        self.assertEqual(house.invoices(), (("ann", 1, total(30, 2), ()),))


class PaymentTest(unittest.TestCase):

    def test_payments_above_what_is_owed(self):
        house = simple(piece("c", 0, 10))
        house.pay("ann", 30)
        self.assertEqual(house.balance("ann"), -30)
        house.close()
        self.assertEqual(house.balance("ann"), total(10) - 30)
        house.pay("ann", 10 ** 12)
        house.pay("ann", 10 ** 12)
        self.assertEqual(house.balance("ann"), total(10) - 30 - 2 * 10 ** 12)
        self.assertEqual((house.invoiced("ann", 0), house.invoices()), (total(10), (("ann", 0, total(10), ()),)))

    def test_anyone_may_pay(self):
        house = simple()
        house.pay("nobody", 7)
        self.assertEqual((house.balance("nobody"), house.balance("ann")), (-7, 0))
        self.assertEqual(house.customers(), ("ann",))
        house.close()
        self.assertEqual(house.invoices(), ())

    def test_a_payment_changes_a_balance_alone(self):
        house = simple(piece("c", 0, 10))
        house.close()
        before = state(house)
        house.pay("ann", 1)
        after = state(house)
        self.assertEqual(after[1], before[1])
        self.assertEqual(closings(house)[0], before[2][0])
        self.assertEqual(house.log(), before[0] + (("pay", "ann", 1),))


if __name__ == "__main__":
    unittest.main()
