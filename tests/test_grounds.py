import random
import unittest

from saidthen.asking import runs_of
from saidthen.grounds import hangs_on

from tests import plain

LAST = plain.LAST


class HangsOn(unittest.TestCase):
    def holds(self, book, n, name, low, high, runs=runs_of):
        """Asks, and looks whether the answer holds what the document says of it."""
        told = hangs_on(book, n, name, low, high)
        self.assertIs(type(told), list)
        self.assertEqual(told, sorted(set(told)))
        for number in told:
            self.assertIn(number, book)
            self.assertLessEqual(number, n)
        alone = {number: book[number] for number in told}
        expected = runs(book, n, name, low, high)
        self.assertEqual(runs(alone, n, name, low, high), expected, (book, told))
        for number in told:
            rest = plain.without(alone, number)
            self.assertNotEqual(runs(rest, n, name, low, high), expected, (book, told, number))
        self.assertEqual(hangs_on(book, n, name, low, high), told)
        return told

    def test_the_empty_book(self):
        for n in (0, 1, 99):
            self.assertEqual(self.holds({}, n, "tea", 0, LAST), [])

    def test_one_tell(self):
        book = {3: ("tell", "tea", 3, 9, 5)}
        for low, high in ((3, 3), (9, 9), (0, 3), (9, 20), (4, 5), (0, LAST)):
            self.assertEqual(self.holds(book, 3, "tea", low, high), [3])

    def test_days_with_nothing(self):
        book = {1: ("tell", "tea", 3, 9, 5), 2: ("tell", "cup", 0, 20, 6)}
        for low, high in ((0, 2), (2, 2), (10, LAST), (10, 10)):
            self.assertEqual(self.holds(book, 2, "tea", low, high), [])
        self.assertEqual(self.holds(book, 2, "pot", 0, LAST), [])

    def test_a_tell_below_a_clear(self):
        book = {1: ("tell", "tea", 3, 9, 5), 2: ("clear", "tea", 5, 6)}
        self.assertEqual(self.holds(book, 2, "tea", 5, 6), [])
        self.assertEqual(self.holds(book, 2, "tea", 5, 5), [])
        self.assertEqual(self.holds(book, 2, "tea", 7, 7), [1])
        self.assertEqual(self.holds(book, 2, "tea", 0, 20), [1, 2])
        self.assertEqual(self.holds({**book, 3: ("clear", "tea", 0, 20)}, 3, "tea", 0, 20), [])

    def test_goes_by_numbers_up_to_n(self):
        book = {2: ("tell", "tea", 0, 9, 5), 4: ("tell", "tea", 0, 9, 6), 7: ("clear", "tea", 0, 9)}
        expected = {0: [], 1: [], 2: [2], 3: [2], 4: [4], 6: [4], 7: [], 10 ** 20: []}
        for n, told in expected.items():
            self.assertEqual(self.holds(book, n, "tea", 0, 20), told, n)

    def test_an_entry_that_another_one_says_again(self):
        book = {1: ("tell", "tea", 0, 9, 5), 2: ("tell", "tea", 0, 9, 5)}
        self.assertEqual(len(self.holds(book, 2, "tea", 0, 20)), 1)
        book[3] = ("tell", "tea", 4, 4, 5)
        book[4] = ("like", "tea", 2, 6, "tea")
        self.assertEqual(len(self.holds(book, 4, "tea", 0, 20)), 1)

    def test_an_entry_said_again_in_two_pieces(self):
        book = {1: ("tell", "tea", 0, 4, 5), 2: ("tell", "tea", 5, 9, 5), 3: ("tell", "tea", 0, 9, 5)}
        self.assertIn(self.holds(book, 3, "tea", 0, 20), ([3], [1, 2]))
        self.assertIn(self.holds(book, 3, "tea", 4, 4), ([3], [1]))

    def test_the_same_by_way_of_another_name_on_some_days(self):
        for days in ((4, 4), (4, 5), (0, 0), (9, 9)):
            book = {1: ("tell", "tea", 0, 9, 5), 2: ("tell", "cup", 0, 9, 5), 3: ("like", "tea", *days, "cup")}
            self.assertEqual(self.holds(book, 3, "tea", 0, 20), [1])
            self.assertIn(self.holds(book, 3, "tea", *days), ([1], [2, 3]))

    def test_another_worth_by_way_of_another_name_on_some_days(self):
        book = {1: ("tell", "tea", 0, 9, 5), 2: ("tell", "cup", 0, 9, 6), 3: ("like", "tea", 4, 5, "cup"),
                4: ("tell", "cup", 0, 9, 7)}
        self.assertEqual(self.holds(book, 4, "tea", 0, 20), [1, 2, 3])
        self.assertEqual(self.holds(book, 4, "tea", 4, 4), [2, 3])
        self.assertEqual(self.holds(book, 4, "tea", 6, 20), [1])
        self.assertEqual(self.holds(book, 4, "cup", 0, 20), [4])

    def test_likes_of_likes(self):
        book = {1: ("tell", "a", 0, 9, 5), 2: ("like", "b", 0, 8, "a"), 3: ("like", "c", 0, 7, "b"),
                4: ("like", "d", 0, 6, "c"), 5: ("clear", "a", 0, 9)}
        self.assertEqual(self.holds(book, 5, "d", 0, 20), [1, 2, 3, 4])
        self.assertEqual(self.holds(book, 5, "c", 7, 7), [1, 2, 3])
        self.assertEqual(self.holds(book, 5, "d", 7, 20), [])
        self.assertEqual(self.holds(book, 5, "a", 0, 20), [])

    def test_a_like_of_the_name_itself(self):
        book = {1: ("tell", "tea", 0, 9, 5), 2: ("like", "tea", 3, 6, "tea")}
        self.assertEqual(self.holds(book, 2, "tea", 0, 20), [1])
        self.assertEqual(self.holds({2: ("like", "tea", 3, 6, "tea")}, 2, "tea", 0, 20), [])

    def test_a_like_of_a_name_of_which_nothing_is_told(self):
        book = {1: ("tell", "tea", 0, 9, 5), 2: ("like", "tea", 3, 6, "cup")}
        self.assertEqual(self.holds(book, 2, "tea", 0, 20), [1, 2])
        self.assertEqual(self.holds(book, 2, "tea", 3, 6), [])
        self.assertEqual(self.holds(book, 2, "tea", 7, 20), [1])

    def test_an_undone_entry(self):
        book = {1: ("tell", "tea", 0, 9, 5), 2: ("tell", "tea", 0, 9, 6), 3: ("undo", 2)}
        self.assertEqual(self.holds(book, 2, "tea", 0, 20), [2])
        self.assertEqual(self.holds(book, 3, "tea", 0, 20), [1])
        book[4] = ("undo", 1)
        self.assertEqual(self.holds(book, 4, "tea", 0, 20), [])

    def test_an_undo_that_is_undone(self):
        book = {1: ("tell", "tea", 0, 9, 5), 2: ("clear", "tea", 4, 4), 3: ("undo", 2), 4: ("undo", 3)}
        self.assertEqual(self.holds(book, 3, "tea", 0, 20), [1])
        self.assertEqual(self.holds(book, 4, "tea", 0, 20), [1, 2])
        book = {1: ("tell", "tea", 0, 9, 5), 2: ("undo", 1), 3: ("undo", 2), 4: ("undo", 3), 5: ("undo", 4)}
        self.assertEqual([self.holds(book, n, "tea", 0, 20) for n in range(6)], [[], [1], [], [1], [], [1]])

    def test_what_is_spare_only_when_another_one_has_gone(self):
        book = {1: ("tell", "tea", 0, 9, 5), 2: ("clear", "tea", 0, 9), 3: ("tell", "tea", 0, 9, 5)}
        self.assertEqual(len(self.holds(book, 3, "tea", 0, 20)), 1)
        book = {1: ("tell", "cup", 0, 9, 5), 2: ("tell", "tea", 5, 5, 5), 3: ("like", "cup", 5, 5, "tea"),
                4: ("clear", "tea", 5, 5), 5: ("like", "cup", 5, 5, "cup"), 6: ("clear", "cup", 20, 20)}
        self.assertEqual(self.holds(book, 6, "cup", 0, 9), [1])

    def test_worth_0(self):
        book = {1: ("tell", "tea", 0, 9, 0), 2: ("tell", "tea", 3, 4, -1), 3: ("tell", "tea", 4, 4, 0)}
        self.assertEqual(self.holds(book, 3, "tea", 0, 20), [1, 2, 3])

    def test_all_days_with_30_entries(self):
        book = {step + 1: ("tell", "tea", step * 30000, LAST, step) for step in range(30)}
        self.assertEqual(self.holds(book, 30, "tea", 0, LAST), list(range(1, 31)))
        self.assertEqual(self.holds(book, 30, "tea", 60000, 119999), [3, 4])
        book = {step + 1: ("tell", "tea", 0, LAST - step, step % 3) for step in range(30)}
        self.assertEqual(self.holds(book, 30, "tea", 0, LAST), list(range(1, 31)))
        book = {step + 1: ("tell", "tea", step * 9, LAST - step, 4) for step in range(30)}
        self.assertEqual(self.holds(book, 30, "tea", 0, LAST), [1])

    def test_all_days_with_30_entries_of_many_kinds(self):
        chance = random.Random(21)
        for _ in range(15):
            book = {}
            for number in range(1, 31):
                word, name, *rest = plain.some_entry(chance, number)
                if word != "undo":
                    rest[:2] = sorted(chance.choices(range(0, LAST + 1, 50000), k=2))
                book[number] = (word, name, *rest)
            for name in plain.NAMES:
                self.holds(book, 30, name, 0, LAST)
                self.holds(book, 22, name, 200000, 200000)

    def test_books_by_chance_against_the_plain_words(self):
        for book in plain.some_books(80, 13):
            for n in (0, 9, 16, 28):
                for low, high in ((0, 13), (4, 8), (6, 6)):
                    self.holds(book, n, "tea", low, high, plain.runs)

    def test_the_same_list_in_whichever_order_the_book_stands(self):
        for book in plain.some_books(60, 14):
            turned = dict(reversed(list(book.items())))
            for name in plain.NAMES:
                self.assertEqual(hangs_on(turned, 28, name, 0, 12), hangs_on(book, 28, name, 0, 12))

    def test_the_told_list_may_be_changed(self):
        book = {1: ("tell", "tea", 0, 9, 5), 2: ("clear", "tea", 4, 4)}
        for low, expected in ((0, [1, 2]), (5, [1]), (20, [])):
            told = hangs_on(book, 2, "tea", low, low + 5)
            self.assertEqual(told, expected)
            told.append(7)
            self.assertEqual(hangs_on(book, 2, "tea", low, low + 5), expected)
            told.clear()
            self.assertEqual(hangs_on(book, 2, "tea", low, low + 5), expected)

    def test_the_book_stays(self):
        for book in plain.some_books(20, 15):
            before = list(book.items())
            hangs_on(book, 28, "tea", 0, 12)
            self.assertEqual(list(book.items()), before)

    def test_a_book_beyond_the_limit(self):
        book = {step + 1: ("tell", "tea", step, step, step) for step in range(40)}
        self.assertEqual(hangs_on(book, 40, "tea", 0, 99), list(range(1, 41)))


if __name__ == "__main__":
    unittest.main()
