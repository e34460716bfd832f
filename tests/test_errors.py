import unittest

from saidthen.errors import BadBook, BadEntry, BadText, BookError, Closed, Gone, NoEntry, TooMany

SEVEN = (BadEntry, BadBook, NoEntry, Closed, TooMany, Gone, BadText)


class Errors(unittest.TestCase):
    def test_book_error_is_a_value_error(self):
        self.assertEqual(BookError.__bases__, (ValueError,))

    def test_each_of_the_seven_is_straight_under_book_error(self):
        for error in SEVEN:
            self.assertEqual(error.__bases__, (BookError,), error)

    def test_none_is_under_another_one(self):
        for one in SEVEN:
            for other in SEVEN:
                self.assertEqual(issubclass(one, other), one is other)

    def test_each_is_caught_by_book_error(self):
        for error in SEVEN:
            with self.assertRaises(BookError):
                raise error("so it is")


if __name__ == "__main__":
    unittest.main()
