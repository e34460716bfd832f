"""The quicker one of the two models is to say what the document's words say."""

import unittest

from tests import plain


class Plain(unittest.TestCase):
    def test_all_known_is_worth_by_worth(self):
        for book in plain.some_books(60, 12):
            for n in (0, 9, 28):
                days = range(plain.DAYS + 2)
                expected = {(name, day): plain.worth(book, n, name, day) for name in plain.NAMES for day in days}
                self.assertEqual(plain.all_known(book, n, plain.NAMES, days), expected)

    def test_edges(self):
        book = {1: ("tell", "tea", 3, 9, 1), 2: ("clear", "cup", 5, plain.LAST), 3: ("undo", 1)}
        self.assertEqual(plain.edges(book), [0, 3, 5, 10, plain.LAST])

    def test_names_of(self):
        book = {1: ("tell", "tea", 3, 9, 1), 2: ("like", "cup", 5, 9, "pot"), 3: ("undo", 1)}
        self.assertEqual(plain.names_of(book), ["cup", "pot", "tea"])


if __name__ == "__main__":
    unittest.main()
