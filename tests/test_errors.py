"""The refusals of the interface: which there are, and which stands under which."""

import unittest

from stockfloor import errors

NAMES = ("BadWare", "BadPlace", "BadMany", "TooFew", "SamePlace", "NoHold", "NoEntry", "NoLine")


class Refusals(unittest.TestCase):
    def test_stock_error_is_under_value_error(self):
        self.assertEqual(errors.StockError.__bases__, (ValueError,))

    def test_each_refusal_is_under_stock_error(self):
        for name in NAMES:
            with self.subTest(name):
                self.assertTrue(issubclass(getattr(errors, name), errors.StockError))
                self.assertIsNot(getattr(errors, name), errors.StockError)

    def test_no_refusal_is_under_another_one(self):
        for lower in NAMES:
            for upper in NAMES:
                if lower != upper:
                    with self.subTest(lower=lower, upper=upper):
                        self.assertFalse(issubclass(getattr(errors, lower), getattr(errors, upper)))

    def test_stock_error_is_under_no_refusal(self):
        for name in NAMES:
            with self.subTest(name):
                self.assertFalse(issubclass(errors.StockError, getattr(errors, name)))

    def test_each_one_has_its_own_name(self):
        for name in (*NAMES, "StockError"):
            with self.subTest(name):
                self.assertEqual(getattr(errors, name).__name__, name)

    def test_each_one_is_raised_with_a_message_and_caught_as_any_refusal(self):
        for name in (*NAMES, "StockError"):
            for caught_as in (getattr(errors, name), errors.StockError, ValueError):
                with self.subTest(name=name, caught_as=caught_as.__name__):
                    with self.assertRaises(caught_as) as caught:
                        raise getattr(errors, name)("why it is refused")
                    self.assertEqual(str(caught.exception), "why it is refused")

    def test_one_refusal_is_not_caught_as_another_one(self):
        with self.assertRaises(errors.TooFew):
            try:
                raise errors.TooFew("too few")
            except (errors.BadMany, errors.BadPlace, errors.BadWare, errors.SamePlace,
                    errors.NoHold, errors.NoEntry, errors.NoLine):
                self.fail("caught as another refusal")


if __name__ == "__main__":
    unittest.main()
