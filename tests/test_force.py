import unittest

from saidthen.force import counting

from tests import plain

TEA = ("tell", "tea", 0, 9, 1)
CUP = ("clear", "cup", 0, 9)


class Counting(unittest.TestCase):
    def test_all_count_where_nothing_is_undone(self):
        book = {3: TEA, 1: CUP, 2: ("like", "tea", 0, 9, "cup")}
        self.assertEqual(counting(book, 3), [1, 2, 3])
        self.assertIs(type(counting(book, 3)), list)

    def test_empty_book(self):
        self.assertEqual(counting({}, 0), [])
        self.assertEqual(counting({}, 5), [])

    def test_an_undo_counts_and_what_it_names_does_not(self):
        self.assertEqual(counting({1: TEA, 2: CUP, 3: ("undo", 1)}, 3), [2, 3])

    def test_an_undo_that_is_undone(self):
        book = {1: TEA, 2: ("undo", 1), 3: ("undo", 2), 4: ("undo", 3), 5: ("undo", 4)}
        self.assertEqual(counting(book, 1), [1])
        self.assertEqual(counting(book, 2), [2])
        self.assertEqual(counting(book, 3), [1, 3])
        self.assertEqual(counting(book, 4), [2, 4])
        self.assertEqual(counting(book, 5), [1, 3, 5])

    def test_two_undos_of_one_entry(self):
        book = {1: TEA, 2: ("undo", 1), 3: ("undo", 1), 4: ("undo", 2), 5: ("undo", 3)}
        self.assertEqual(counting(book, 3), [2, 3])
        self.assertEqual(counting(book, 4), [3, 4])
        self.assertEqual(counting(book, 5), [1, 4, 5])

    def test_an_undo_of_a_missing_number_does_nothing(self):
        self.assertEqual(counting({1: TEA, 5: ("undo", 3), 9: CUP}, 9), [1, 5, 9])

    def test_an_undo_that_undoes_an_undo_of_a_missing_number(self):
        self.assertEqual(counting({5: ("undo", 3), 9: ("undo", 5)}, 9), [9])

    def test_goes_by_numbers_up_to_n_alone(self):
        book = {2: TEA, 4: ("undo", 2), 6: ("undo", 4)}
        expected = {0: [], 1: [], 2: [2], 3: [2], 4: [4], 5: [4], 6: [2, 6], 7: [2, 6], 10 ** 20: [2, 6]}
        for n, numbers in expected.items():
            self.assertEqual(counting(book, n), numbers, n)

    def test_numbers_greater_than_a_thousand_millions(self):
        far = 10 ** 12
        book = {far + 9: ("undo", far), far: TEA, 1: CUP, far + 3: CUP}
        self.assertEqual(counting(book, far - 1), [1])
        self.assertEqual(counting(book, far), [1, far])
        self.assertEqual(counting(book, far + 8), [1, far, far + 3])
        self.assertEqual(counting(book, far + 9), [1, far + 3, far + 9])

    def test_the_order_in_the_dict_means_nothing(self):
        rows = [(1, TEA), (2, ("undo", 1)), (3, ("undo", 2)), (8, CUP), (9, ("undo", 2))]
        for turn in range(len(rows)):
            book = dict(rows[turn:] + rows[:turn])
            self.assertEqual(counting(book, 9), [1, 3, 8, 9])

    def test_a_book_of_undos(self):
        book = {1: TEA}
        for number in range(2, 31):
            book[number] = ("undo", number - 1)
        self.assertEqual(counting(book, 30), list(range(2, 31, 2)))
        self.assertEqual(counting(book, 29), list(range(1, 30, 2)))

    def test_a_book_beyond_the_limit(self):
        book = {number: TEA for number in range(1, 41)}
        self.assertEqual(counting(book, 40), list(range(1, 41)))

    def test_books_by_chance_against_the_plain_words(self):
        for book in plain.some_books(300, 5):
            for n in range(30):
                expected = [k for k in sorted(book) if plain.counts(book, n, k)]
                self.assertEqual(counting(book, n), expected, (book, n))


if __name__ == "__main__":
    unittest.main()
