import unittest

from eachsecond import errors


class ErrorTest(unittest.TestCase):

    def test_bases(self):
        self.assertEqual(errors.SecondError.__bases__, (Exception,))
        for name in ("BadValue", "BadText", "BadRow", "Clash", "NoCall", "TakenCall", "NoMoney", "NotNow"):
            made = getattr(errors, name)
            with self.subTest(name):
                self.assertEqual(made.__bases__, (errors.SecondError,))
                self.assertEqual((made.__name__, made.__module__), (name, "eachsecond.errors"))

    def test_positions_are_kept(self):
        for made in (errors.BadValue, errors.BadText, errors.BadRow):
            for at in (0, 3, 10 ** 30):
                self.assertEqual(made(at).at, at)
                self.assertEqual(made(at=at).at, at)

    def test_the_very_thing_is_kept(self):
        kept = [["hold"], ("400", 5), 0, None]
        self.assertIs(errors.Clash(kept).fact, kept)
        self.assertIs(errors.Clash(fact=kept).fact, kept)
        kept.append("later")
        self.assertEqual(errors.Clash(kept).fact[-1], "later")
        for made in (errors.NoCall, errors.TakenCall):
            self.assertIs(made(kept).call, kept)
            self.assertIs(made(call=kept).call, kept)

    def test_each_is_caught_as_itself_and_as_the_base(self):
        for error in (errors.BadValue(1), errors.BadText(1), errors.BadRow(1), errors.Clash(()),
                      errors.NoCall("a"), errors.TakenCall("a"), errors.NoMoney(), errors.NotNow()):
            with self.subTest(type(error).__name__):
                with self.assertRaises(type(error)) as caught:
                    raise error
                self.assertIs(caught.exception, error)
                with self.assertRaises(errors.SecondError):
                    raise error

    def test_an_argument_is_needed_where_one_is_named(self):
        for name in ("BadValue", "BadText", "BadRow", "Clash", "NoCall", "TakenCall"):
            with self.subTest(name), self.assertRaises(TypeError):
                getattr(errors, name)()


if __name__ == "__main__":
    unittest.main()
