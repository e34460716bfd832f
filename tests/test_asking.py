import unittest

from saidthen.asking import became_of, came_about, runs_of, worth_of

from tests import plain

LAST = 1000000


def long_book():
    """Thirty entries over all days: the names tea and cup, and likes of likes."""
    book = {}
    for step in range(10):
        book[3 * step + 1] = ("tell", "tea", step * 100000, LAST, step % 4)
        book[3 * step + 2] = ("like", "cup", step * 90000, step * 90000 + 150000, "tea")
        book[3 * step + 3] = ("clear", "tea", step * 100000 + 5, step * 100000 + 9)
    return book


def days_that_matter(book):
    """The first and last days of all entries with their neighbours, the only days where a name may become otherwise."""
    days = {0, 1, LAST - 1, LAST}
    for entry in book.values():
        if entry[0] != "undo":
            for day in entry[2:4]:
                days.update((day - 1, day, day + 1))
    return sorted(day for day in days if 0 <= day <= LAST)


class WorthOf(unittest.TestCase):
    def test_a_tell_has_its_days(self):
        book = {1: ("tell", "tea", 3, 9, -40)}
        expected = {0: None, 2: None, 3: -40, 4: -40, 9: -40, 10: None, LAST: None}
        for day, worth in expected.items():
            self.assertEqual(worth_of(book, 1, "tea", day), worth, day)

    def test_a_tell_of_one_day_and_of_all_days(self):
        self.assertEqual([worth_of({1: ("tell", "a", 5, 5, 0)}, 1, "a", day) for day in (4, 5, 6)], [None, 0, None])
        for day in (0, 1, 999999, LAST):
            self.assertEqual(worth_of({1: ("tell", "a", 0, LAST, 7)}, 1, "a", day), 7)

    def test_worth_0_is_not_nothing(self):
        self.assertEqual(worth_of({1: ("tell", "tea", 0, 9, 0)}, 1, "tea", 4), 0)
        self.assertIs(worth_of({1: ("tell", "tea", 0, 9, 0)}, 1, "tea", 10), None)

    def test_the_greatest_number_tells(self):
        book = {9: ("tell", "tea", 2, 4, 9), 5: ("tell", "tea", 0, 9, 5), 7: ("tell", "tea", 3, 6, 7)}
        self.assertEqual([worth_of(book, 9, "tea", day) for day in range(8)], [5, 5, 9, 9, 9, 7, 7, 5])
        self.assertEqual([worth_of(book, 8, "tea", day) for day in range(8)], [5, 5, 5, 7, 7, 7, 7, 5])

    def test_a_clear_leaves_nothing(self):
        book = {1: ("tell", "tea", 0, 9, 5), 2: ("clear", "tea", 3, 4), 3: ("tell", "tea", 4, 4, 6)}
        self.assertEqual([worth_of(book, 2, "tea", day) for day in (2, 3, 4, 5)], [5, None, None, 5])
        self.assertEqual([worth_of(book, 3, "tea", day) for day in (2, 3, 4, 5)], [5, None, 6, 5])

    def test_a_name_of_which_nothing_is_told(self):
        book = {1: ("tell", "tea", 0, 9, 5), 2: ("like", "cup", 0, 9, "pot")}
        for name in ("pot", "cup", "te", "teas"):
            self.assertIs(worth_of(book, 2, name, 4), None)
        self.assertIs(worth_of({}, 3, "tea", 4), None)

    def test_goes_by_numbers_up_to_n(self):
        book = {2: ("tell", "tea", 0, 9, 2), 4: ("tell", "tea", 0, 9, 4)}
        self.assertEqual([worth_of(book, n, "tea", 5) for n in (0, 1, 2, 3, 4, 5, 10 ** 15)],
                         [None, None, 2, 2, 4, 4, 4])

    def test_a_like_has_what_the_other_has(self):
        book = {1: ("tell", "tea", 2, 6, 5), 2: ("like", "cup", 4, 8, "tea")}
        self.assertEqual([worth_of(book, 2, "cup", day) for day in range(3, 10)], [None, 5, 5, 5, None, None, None])

    def test_a_like_of_nothing_hides_what_was(self):
        book = {1: ("tell", "cup", 0, 9, 3), 2: ("like", "cup", 4, 5, "tea")}
        self.assertEqual([worth_of(book, 2, "cup", day) for day in (3, 4, 5, 6)], [3, None, None, 3])

    def test_a_like_of_what_is_cleared(self):
        book = {1: ("tell", "tea", 0, 9, 5), 2: ("clear", "tea", 3, 3), 3: ("like", "cup", 0, 9, "tea")}
        self.assertEqual([worth_of(book, 3, "cup", day) for day in (2, 3, 4)], [5, None, 5])

    def test_a_like_of_the_name_itself(self):
        book = {1: ("tell", "tea", 0, 9, 1), 2: ("like", "tea", 0, 9, "tea")}
        self.assertEqual(worth_of(book, 2, "tea", 5), 1)
        self.assertIs(worth_of({2: ("like", "tea", 0, 9, "tea")}, 2, "tea", 5), None)
        book[3] = ("like", "tea", 0, 9, "tea")
        book[4] = ("tell", "tea", 6, 9, 4)
        self.assertEqual([worth_of(book, 4, "tea", day) for day in (5, 6)], [1, 4])

    def test_likes_of_likes(self):
        book = {1: ("tell", "a", 0, 9, 1)}
        for number in range(2, 27):
            book[number] = ("like", "abcdefghijklmnopqrstuvwxyz"[number - 1], 0, 9,
                            "abcdefghijklmnopqrstuvwxyz"[number - 2])
        self.assertEqual(worth_of(book, 26, "z", 5), 1)
        self.assertIs(worth_of(book, 25, "z", 5), None)
        self.assertIs(worth_of(book, 26, "z", 10), None)
        turned = {27 - number: entry for number, entry in book.items()}
        self.assertIs(worth_of(turned, 26, "z", 5), None)

    def test_two_names_that_are_like_each_other(self):
        book = {1: ("tell", "tea", 0, 9, 1), 2: ("like", "cup", 0, 9, "tea"), 3: ("like", "tea", 0, 9, "cup"),
                4: ("like", "cup", 0, 9, "tea")}
        for name in ("tea", "cup"):
            self.assertEqual(worth_of(book, 4, name, 5), 1)

    def test_a_like_goes_by_lesser_numbers_alone(self):
        book = {1: ("tell", "tea", 0, 9, 1), 2: ("like", "cup", 0, 9, "tea"), 3: ("tell", "tea", 0, 9, 3)}
        self.assertEqual(worth_of(book, 3, "cup", 5), 1)
        self.assertEqual(worth_of(book, 3, "tea", 5), 3)
        book[4] = ("clear", "tea", 0, 9)
        self.assertEqual(worth_of(book, 4, "cup", 5), 1)
        self.assertIs(worth_of({1: ("like", "cup", 0, 9, "tea"), 2: ("tell", "tea", 0, 9, 2)}, 2, "cup", 5), None)

    def test_an_undone_tell_below_a_like(self):
        book = {1: ("tell", "tea", 0, 9, 1), 2: ("tell", "tea", 0, 9, 2), 3: ("like", "cup", 0, 9, "tea"),
                4: ("undo", 2), 5: ("undo", 1), 6: ("undo", 4)}
        self.assertEqual([worth_of(book, n, "cup", 5) for n in range(7)], [None, None, None, 2, 1, None, 2])

    def test_an_undone_like_and_an_undone_clear(self):
        book = {1: ("tell", "tea", 0, 9, 1), 2: ("like", "tea", 0, 9, "cup"), 3: ("undo", 2),
                4: ("clear", "tea", 0, 9), 5: ("undo", 4)}
        self.assertEqual([worth_of(book, n, "tea", 5) for n in range(6)], [None, 1, None, 1, None, 1])

    def test_names_that_are_the_words_of_entries(self):
        book = {1: ("tell", "undo", 0, 9, 1), 2: ("like", "tell", 0, 9, "undo"), 3: ("like", "like", 0, 9, "tell"),
                4: ("tell", "clear", 0, 9, 4)}
        for name, worth in (("undo", 1), ("tell", 1), ("like", 1), ("clear", 4)):
            self.assertEqual(worth_of(book, 4, name, 5), worth)
            self.assertEqual(runs_of(book, 4, name, 0, 20), [(0, 9, worth)])

    def test_days_beyond_the_last_one_have_nothing(self):
        for day in (-1, LAST + 1):
            self.assertIs(worth_of({1: ("tell", "a", 0, LAST, 7)}, 1, "a", day), None)

    def test_books_by_chance_against_the_plain_words(self):
        for book in plain.some_books(150, 6):
            for n in (0, 3, 9, 14, 20, 28):
                for name in plain.NAMES:
                    for day in range(plain.DAYS + 2):
                        self.assertEqual(worth_of(book, n, name, day), plain.worth(book, n, name, day), (book, n, day))


class RunsOf(unittest.TestCase):
    def test_one_run(self):
        told = runs_of({1: ("tell", "tea", 3, 9, -40)}, 1, "tea", 0, 20)
        self.assertEqual(told, [(3, 9, -40)])
        self.assertIs(type(told), list)
        self.assertIs(type(told[0]), tuple)

    def test_neighbours_with_one_worth_become_one(self):
        book = {1: ("tell", "tea", 3, 5, 7), 2: ("tell", "tea", 6, 8, 7), 3: ("tell", "tea", 9, 9, 8)}
        self.assertEqual(runs_of(book, 3, "tea", 0, 20), [(3, 8, 7), (9, 9, 8)])

    def test_stretches_over_each_other_with_one_worth_become_one(self):
        book = {1: ("tell", "tea", 3, 9, 7), 2: ("tell", "tea", 5, 12, 7), 3: ("like", "tea", 4, 11, "tea"),
                4: ("tell", "cup", 6, 7, 1)}
        self.assertEqual(runs_of(book, 4, "tea", 0, 20), [(3, 12, 7)])

    def test_a_gap_between_runs(self):
        book = {1: ("tell", "tea", 3, 9, 7), 2: ("clear", "tea", 6, 6)}
        self.assertEqual(runs_of(book, 2, "tea", 0, 20), [(3, 5, 7), (7, 9, 7)])
        book = {1: ("tell", "tea", 3, 5, 7), 2: ("tell", "tea", 7, 9, 7)}
        self.assertEqual(runs_of(book, 2, "tea", 0, 20), [(3, 5, 7), (7, 9, 7)])

    def test_worth_0_has_a_run(self):
        self.assertEqual(runs_of({1: ("tell", "tea", 3, 9, 0)}, 1, "tea", 0, 20), [(3, 9, 0)])

    def test_low_and_high_alike(self):
        book = {1: ("tell", "tea", 3, 9, 7)}
        for day, told in ((2, []), (3, [(3, 3, 7)]), (6, [(6, 6, 7)]), (9, [(9, 9, 7)]), (10, [])):
            self.assertEqual(runs_of(book, 1, "tea", day, day), told)

    def test_low_and_high_cut_runs(self):
        book = {1: ("tell", "tea", 3, 9, 7), 2: ("tell", "tea", 10, 15, 8)}
        self.assertEqual(runs_of(book, 2, "tea", 5, 12), [(5, 9, 7), (10, 12, 8)])
        self.assertEqual(runs_of(book, 2, "tea", 9, 10), [(9, 9, 7), (10, 10, 8)])
        self.assertEqual(runs_of(book, 2, "tea", 3, 15), [(3, 9, 7), (10, 15, 8)])
        self.assertEqual(runs_of(book, 2, "tea", 16, 20), [])

    def test_goes_by_numbers_up_to_n_and_by_what_counts(self):
        book = {1: ("tell", "tea", 3, 9, 7), 3: ("clear", "tea", 5, 20), 5: ("undo", 3)}
        whole, cut = [(3, 9, 7)], [(3, 4, 7)]
        expected = {0: [], 1: whole, 2: whole, 3: cut, 4: cut, 5: whole, 99: whole}
        for n, told in expected.items():
            self.assertEqual(runs_of(book, n, "tea", 0, 20), told, n)

    def test_nothing_told(self):
        self.assertEqual(runs_of({}, 0, "tea", 0, LAST), [])
        self.assertEqual(runs_of({1: ("tell", "cup", 0, 9, 1)}, 1, "tea", 0, LAST), [])

    def test_all_days_with_a_tell_a_stretch(self):
        book = {step + 1: ("tell", "tea", step * 30000, LAST, step) for step in range(30)}
        expected = [(step * 30000, step * 30000 + 29999, step) for step in range(29)] + [(870000, LAST, 29)]
        self.assertEqual(runs_of(book, 30, "tea", 0, LAST), expected)

    def test_all_days_with_likes_of_likes(self):
        book = long_book()
        days = days_that_matter(book)
        for name in ("tea", "cup"):
            for n in (7, 15, 30):
                told = runs_of(book, n, name, 0, LAST)
                self.assertEqual(told, sorted(told))
                for day in days:
                    here = [worth for first, last, worth in told if first <= day <= last]
                    worth = plain.worth(book, n, name, day)
                    self.assertEqual(here, [] if worth is None else [worth], (name, n, day))
                for (_, last, worth), (first, _, other) in zip(told, told[1:]):
                    self.assertTrue(first > last + 1 or worth != other)

    def test_books_by_chance_against_the_plain_words(self):
        for book in plain.some_books(200, 7):
            for n in (0, 4, 10, 17, 28):
                for low, high in ((0, 14), (3, 9), (6, 6)):
                    told = runs_of(book, n, "tea", low, high)
                    self.assertEqual(told, plain.runs(book, n, "tea", low, high), (book, n, low, high))


class CameAbout(unittest.TestCase):
    def test_the_empty_book(self):
        self.assertEqual(came_about({}, "tea", 5), [(0, None)])

    def test_each_number_that_makes_it_otherwise(self):
        book = {8: ("clear", "tea", 0, 9), 2: ("tell", "tea", 0, 9, 5), 5: ("tell", "tea", 0, 9, 6)}
        told = came_about(book, "tea", 5)
        self.assertEqual(told, [(0, None), (2, 5), (5, 6), (8, None)])
        self.assertIs(type(told), list)
        self.assertEqual({type(pair) for pair in told}, {tuple})

    def test_a_number_behind_which_nothing_is_otherwise_is_not_told(self):
        book = {1: ("clear", "tea", 0, 9), 2: ("tell", "tea", 0, 9, 5), 3: ("tell", "cup", 0, 9, 6),
                4: ("tell", "tea", 0, 9, 5), 5: ("tell", "tea", 6, 9, 7), 6: ("undo", 2),
                7: ("like", "tea", 0, 9, "tea")}
        self.assertEqual(came_about(book, "tea", 5), [(0, None), (2, 5)])
        self.assertEqual(came_about(book, "tea", 6), [(0, None), (2, 5), (5, 7)])

    def test_an_entry_that_is_undone_later(self):
        book = {1: ("tell", "tea", 0, 9, 5), 2: ("undo", 1), 3: ("undo", 2)}
        self.assertEqual(came_about(book, "tea", 5), [(0, None), (1, 5), (2, None), (3, 5)])

    def test_a_worth_that_comes_back(self):
        book = {1: ("tell", "tea", 0, 9, 5), 4: ("tell", "tea", 0, 9, 6), 9: ("tell", "tea", 0, 9, 5)}
        self.assertEqual(came_about(book, "tea", 5), [(0, None), (1, 5), (4, 6), (9, 5)])

    def test_worth_0_and_nothing_are_otherwise(self):
        book = {1: ("tell", "tea", 0, 9, 0), 2: ("clear", "tea", 0, 9)}
        self.assertEqual(came_about(book, "tea", 5), [(0, None), (1, 0), (2, None)])

    def test_an_undone_tell_below_a_like(self):
        book = {1: ("tell", "tea", 0, 9, 1), 3: ("like", "cup", 0, 9, "tea"), 7: ("undo", 1)}
        self.assertEqual(came_about(book, "cup", 5), [(0, None), (3, 1), (7, None)])

    def test_books_by_chance_against_the_plain_words(self):
        for book in plain.some_books(200, 8):
            for name in plain.NAMES:
                for day in (0, 5, 9, 12):
                    self.assertEqual(came_about(book, name, day), plain.came(book, name, day), (book, name, day))


class BecameOf(unittest.TestCase):
    BOOK = {1: ("tell", "tea", 3, 9, 7), 2: ("tell", "tea", 6, 12, 8), 3: ("clear", "tea", 4, 7)}

    def test_from_a_number_to_itself(self):
        for n in range(5):
            self.assertEqual(became_of(self.BOOK, n, n, "tea", 0, LAST), [])

    def test_none_ahead_and_none_behind(self):
        self.assertEqual(became_of(self.BOOK, 0, 1, "tea", 0, 20), [(3, 9, None, 7)])
        self.assertEqual(became_of(self.BOOK, 1, 0, "tea", 0, 20), [(3, 9, 7, None)])

    def test_from_one_to_another_and_the_other_way_about(self):
        self.assertEqual(became_of(self.BOOK, 1, 2, "tea", 0, 20), [(6, 9, 7, 8), (10, 12, None, 8)])
        self.assertEqual(became_of(self.BOOK, 2, 1, "tea", 0, 20), [(6, 9, 8, 7), (10, 12, 8, None)])
        told = became_of(self.BOOK, 1, 3, "tea", 0, 20)
        self.assertEqual(told, [(4, 7, 7, None), (8, 9, 7, 8), (10, 12, None, 8)])
        self.assertIs(type(told), list)
        self.assertEqual({type(row) for row in told}, {tuple})

    def test_low_and_high_cut(self):
        self.assertEqual(became_of(self.BOOK, 1, 2, "tea", 8, 10), [(8, 9, 7, 8), (10, 10, None, 8)])
        self.assertEqual(became_of(self.BOOK, 1, 2, "tea", 6, 6), [(6, 6, 7, 8)])
        self.assertEqual(became_of(self.BOOK, 1, 2, "tea", 5, 5), [])

    def test_neighbours_with_the_same_two_become_one(self):
        book = {1: ("tell", "tea", 0, 9, 5), 2: ("tell", "tea", 2, 4, 6), 3: ("tell", "tea", 5, 7, 6)}
        self.assertEqual(became_of(book, 1, 3, "tea", 0, 20), [(2, 7, 5, 6)])

    def test_neighbours_with_one_alike_stay_two(self):
        book = {1: ("tell", "tea", 0, 4, 5), 2: ("tell", "tea", 5, 9, 6), 3: ("tell", "tea", 0, 9, 7)}
        self.assertEqual(became_of(book, 2, 3, "tea", 0, 20), [(0, 4, 5, 7), (5, 9, 6, 7)])
        self.assertEqual(became_of(book, 3, 2, "tea", 0, 20), [(0, 4, 7, 5), (5, 9, 7, 6)])

    def test_days_alike_between_two_stretches_part_them(self):
        book = {1: ("tell", "tea", 4, 4, 7), 2: ("tell", "tea", 0, 9, 7)}
        self.assertEqual(became_of(book, 1, 2, "tea", 0, 20), [(0, 3, None, 7), (5, 9, None, 7)])

    def test_numbers_beyond_the_last_one(self):
        self.assertEqual(became_of(self.BOOK, 3, 99, "tea", 0, 20), [])
        self.assertEqual(became_of(self.BOOK, 99, 0, "tea", 0, 5), [(3, 3, 7, None)])

    def test_undos(self):
        book = {1: ("tell", "tea", 3, 9, 7), 2: ("like", "cup", 0, 5, "tea"), 3: ("undo", 1)}
        self.assertEqual(became_of(book, 2, 3, "cup", 0, 20), [(3, 5, 7, None)])

    def test_all_days(self):
        book = {step + 1: ("tell", "tea", step * 30000, LAST, step) for step in range(30)}
        self.assertEqual(became_of(book, 29, 30, "tea", 0, LAST), [(870000, LAST, 28, 29)])
        expected = [(step * 30000, step * 30000 + 29999, 0, step) for step in range(1, 29)] + [(870000, LAST, 0, 29)]
        self.assertEqual(became_of(book, 1, 30, "tea", 0, LAST), expected)

    def test_all_days_with_likes_of_likes(self):
        book = long_book()
        days = days_that_matter(book)
        for one, other in ((0, 30), (12, 30), (30, 17)):
            told = became_of(book, one, other, "cup", 0, LAST)
            for day in days:
                here = [(before, after) for first, last, before, after in told if first <= day <= last]
                pair = (plain.worth(book, one, "cup", day), plain.worth(book, other, "cup", day))
                self.assertEqual(here, [] if pair[0] == pair[1] else [pair], (one, other, day))
            for row, beside in zip(told, told[1:]):
                self.assertTrue(beside[0] > row[1] + 1 or beside[2:] != row[2:])

    def test_books_by_chance_against_the_plain_words(self):
        for book in plain.some_books(200, 9):
            for one, other in ((0, 28), (5, 12), (12, 5), (9, 20)):
                for low, high in ((0, 14), (3, 9), (6, 6)):
                    told = became_of(book, one, other, "tea", low, high)
                    self.assertEqual(told, plain.became(book, one, other, "tea", low, high), (book, one, other))


if __name__ == "__main__":
    unittest.main()
