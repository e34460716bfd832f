import random
import unittest

from saidthen.shorter import shortened

from tests import plain

LAST = plain.LAST
WHOLE = ("tell", "tea", 0, 9, 5)


class Case(unittest.TestCase):
    def holds(self, book):
        """Makes the book shorter, and looks whether what is left holds what the document says of it."""
        before = list(book.items())
        short = shortened(book)
        self.assertIs(type(short), dict)
        self.assertIsNot(short, book)
        self.assertEqual(list(book.items()), before)
        for number, entry in short.items():
            self.assertEqual(entry, book[number])
            self.assertNotEqual(entry[0], "undo")
        last, names, days = max(book, default=0), plain.names_of(book), plain.edges(book)
        expected = plain.all_known(book, last, names, days)
        self.assertEqual(plain.all_known(short, last, names, days), expected, (book, short))
        for number in short:
            rest = plain.without(short, number)
            self.assertNotEqual(plain.all_known(rest, last, names, days), expected, (book, short, number))
        self.assertEqual(shortened(book), short)
        self.assertEqual(shortened(short), short)
        return short

    def left(self, *entries):
        """The numbers that are left of a book of these entries, numbered from 1 on."""
        return sorted(self.holds(dict(enumerate(entries, 1))))


class Shortened(Case):
    def test_the_empty_book(self):
        self.assertEqual(self.holds({}), {})

    def test_undos_go(self):
        self.assertEqual(self.holds({5: ("undo", 3)}), {})
        self.assertEqual(self.holds({2: ("undo", 1), 3: ("undo", 2), 9: ("undo", 3)}), {})
        self.assertEqual(self.holds({1: WHOLE, 5: ("undo", 3)}), {1: WHOLE})

    def test_an_undone_entry_goes(self):
        self.assertEqual(self.left(WHOLE, ("undo", 1)), [])
        self.assertEqual(self.left(WHOLE, ("clear", "tea", 3, 3), ("undo", 2)), [1])
        self.assertEqual(self.left(WHOLE, ("clear", "tea", 3, 3), ("undo", 2), ("undo", 3)), [1, 2])

    def test_entries_that_all_stay(self):
        self.assertEqual(self.left(WHOLE, ("clear", "tea", 3, 3), ("like", "cup", 2, 4, "tea")), [1, 2, 3])
        book = {7: WHOLE, 3: ("tell", "cup", 0, LAST, 5)}
        self.assertEqual(self.holds(book), book)

    def test_an_entry_below_others(self):
        self.assertEqual(self.left(WHOLE, ("tell", "tea", 0, 9, 6)), [2])
        self.assertEqual(self.left(WHOLE, ("tell", "tea", 0, 4, 6), ("tell", "tea", 5, 9, 7)), [2, 3])
        self.assertEqual(self.left(WHOLE, ("tell", "tea", 0, 4, 6), ("tell", "tea", 6, 9, 7)), [1, 2, 3])
        self.assertEqual(self.left(WHOLE, ("tell", "tea", 1, 9, 6)), [1, 2])
        self.assertEqual(self.left(WHOLE, ("tell", "tea", 0, 8, 6)), [1, 2])
        self.assertEqual(self.left(WHOLE, ("clear", "tea", 0, 9)), [])
        self.assertEqual(self.left(WHOLE, ("clear", "tea", 0, 8)), [1, 2])
        self.assertEqual(self.left(WHOLE, ("like", "tea", 0, 9, "cup")), [])

    def test_days_at_the_bounds(self):
        self.assertEqual(self.left(("tell", "tea", 0, LAST, 5), ("tell", "tea", 0, LAST - 1, 6)), [1, 2])
        self.assertEqual(self.left(("tell", "tea", 0, LAST, 5), ("tell", "tea", 1, LAST, 6)), [1, 2])
        self.assertEqual(self.left(("tell", "tea", LAST, LAST, 5), ("tell", "tea", 0, LAST, 6)), [2])

    def test_a_like_still_takes_what_is_hidden(self):
        like = ("like", "cup", 4, 4, "tea")
        self.assertEqual(self.left(WHOLE, like, ("tell", "tea", 0, 9, 6)), [1, 2, 3])
        self.assertEqual(self.left(WHOLE, like, ("clear", "tea", 0, 9)), [1, 2, 3])
        self.assertEqual(self.left(WHOLE, like, ("tell", "tea", 0, 9, 6), ("clear", "cup", 4, 4)), [3])
        self.assertEqual(self.left(("tell", "a", 0, 9, 1), ("like", "b", 0, 9, "a"), ("tell", "a", 0, 9, 2),
                                   ("like", "c", 5, 5, "b"), ("clear", "b", 0, 9)), [1, 2, 3, 4, 5])

    def test_a_clear_of_days_with_nothing(self):
        self.assertEqual(self.left(("clear", "tea", 0, 9)), [])
        self.assertEqual(self.left(("clear", "tea", 0, 9), WHOLE), [2])
        self.assertEqual(self.left(WHOLE, ("clear", "tea", 10, 20)), [1])
        self.assertEqual(self.left(WHOLE, ("clear", "tea", 9, 20)), [1, 2])

    def test_a_like_of_the_name_itself(self):
        self.assertEqual(self.left(("like", "tea", 0, 9, "tea")), [])
        self.assertEqual(self.left(WHOLE, ("like", "tea", 0, 20, "tea")), [1])

    def test_a_like_of_a_name_of_which_nothing_is_told(self):
        self.assertEqual(self.left(("like", "tea", 0, 9, "cup")), [])
        self.assertEqual(self.left(WHOLE, ("like", "tea", 3, 3, "cup")), [1, 2])

    def test_a_tell_that_says_the_same_again(self):
        self.assertEqual(len(self.left(WHOLE, WHOLE)), 1)
        self.assertEqual(self.left(WHOLE, ("tell", "tea", 3, 5, 5)), [1])
        self.assertEqual(len(self.left(WHOLE, WHOLE, WHOLE, ("tell", "tea", 9, 9, 5))), 1)
        self.assertEqual(self.left(WHOLE, ("tell", "tea", 3, 5, 6), ("tell", "tea", 4, 4, 5)), [1, 2, 3])

    def test_either_of_two_could_be_left_out_but_not_both(self):
        left = self.left(("tell", "tea", 0, 4, 5), ("tell", "tea", 4, 9, 5), ("tell", "tea", 2, 7, 5))
        self.assertEqual(left, [1, 2])
        left = self.left(("tell", "tea", 0, 6, 5), ("tell", "tea", 3, 9, 5), ("clear", "tea", 0, 2),
                         ("clear", "tea", 7, 9))
        self.assertIn(left, ([1, 3], [2, 4]))
        left = self.left(("tell", "cup", 0, 9, 5), WHOLE, ("like", "cup", 0, 9, "tea"))
        self.assertIn(left, ([1, 2], [2, 3]))

    def test_what_is_spare_only_when_another_one_has_gone(self):
        self.assertEqual(len(self.left(WHOLE, ("clear", "tea", 0, 9), WHOLE)), 1)
        self.assertEqual(self.left(("tell", "cup", 0, 9, 1), ("tell", "tea", 5, 5, 1), ("like", "cup", 5, 5, "tea"),
                                   ("clear", "tea", 5, 5)), [1])

    def test_worth_0_is_not_nothing(self):
        self.assertEqual(self.left(("tell", "tea", 0, 9, 0)), [1])
        self.assertEqual(self.left(("tell", "tea", 0, 9, 0), ("clear", "tea", 3, 3)), [1, 2])

    def test_30_entries(self):
        tells = [("tell", "tea", step * 10, step * 10 + 15, step) for step in range(30)]
        self.assertEqual(self.left(*tells), list(range(1, 31)))
        self.assertEqual(self.left(*tells[:29], ("tell", "tea", 0, LAST, 1)), [30])
        self.assertEqual(self.left(*[("tell", "tea", step, LAST - step, 1) for step in range(30)]), [1])
        likes = [("like", "abcdefghijklmnopqrstuvwxyzab"[at + 1], at, 99, "abcdefghijklmnopqrstuvwxyz"[at])
                 for at in range(25)]
        self.assertEqual(len(self.left(("tell", "a", 0, 99, 1), *likes, *[("clear", "a", at, at) for at in range(4)])),
                         30)

    def test_30_entries_by_chance(self):
        chance = random.Random(22)
        for _ in range(10):
            self.holds({number: plain.some_entry(chance, number) for number in range(1, 31)})

    def test_books_by_chance(self):
        for book in plain.some_books(150, 16):
            self.holds(book)

    def test_the_same_ones_in_whichever_order_the_book_stands(self):
        for book in plain.some_books(60, 17):
            turned = dict(reversed(list(book.items())))
            self.assertEqual(shortened(turned), shortened(book))

    def test_what_is_told_may_be_changed(self):
        for book in ({1: WHOLE}, {}):
            short = shortened(book)
            short[9] = ("undo", 1)
            self.assertEqual(shortened(book), book)
            self.assertNotIn(9, book)

    def test_a_book_beyond_the_limit(self):
        book = {step + 1: ("tell", "tea", step, step, step) for step in range(40)}
        self.assertEqual(shortened(book), book)


class GoneOnWith(unittest.TestCase):
    def go_on(self, book, later):
        """Looks whether the shorter book with the later entries knows what the book with these knows."""
        short = {**shortened(book), **later}
        whole = {**book, **later}
        names, days = plain.names_of(whole), plain.edges(whole)
        last = max(book, default=0)
        for n in [last, last + 1, *later]:
            expected = plain.all_known(whole, n, names, days)
            self.assertEqual(plain.all_known(short, n, names, days), expected, (book, later, n))

    BOOK = {1: ("tell", "tea", 0, 9, 5), 2: ("tell", "tea", 3, 9, 6), 3: ("like", "cup", 2, 5, "tea"),
            4: ("clear", "tea", 0, 9), 5: ("tell", "pot", 0, 9, 7), 6: ("undo", 5), 8: ("tell", "tea", 0, 20, 1)}

    def test_each_kind_of_later_entry(self):
        for entry in (("tell", "tea", 4, 30, 2), ("clear", "cup", 3, 3), ("clear", "tea", 0, LAST),
                      ("like", "can", 0, 30, "cup"), ("like", "cup", 0, 30, "cup"), ("like", "tea", 0, 9, "pot"),
                      ("like", "pot", 0, LAST, "tea")):
            self.go_on(self.BOOK, {9: entry})
            self.go_on(self.BOOK, {20: entry, 21: ("undo", 20), 22: ("undo", 21), 25: entry})

    def test_likes_of_names_told_in_the_book(self):
        self.go_on(self.BOOK, {9: ("like", "can", 0, 9, "tea"), 10: ("clear", "tea", 0, 9),
                               11: ("like", "tea", 0, 9, "can"), 12: ("like", "pot", 0, 9, "cup")})

    def test_an_undo_of_a_number_that_the_book_has_not(self):
        self.go_on(self.BOOK, {9: ("undo", 7), 10: ("undo", 9)})

    def test_the_empty_book(self):
        self.go_on({}, {1: ("tell", "tea", 0, 9, 5), 2: ("undo", 1), 3: ("undo", 2)})

    def test_books_by_chance(self):
        chance = random.Random(23)
        for book in plain.some_books(80, 18):
            last = max(book, default=0)
            later = {}
            for number in range(last + 1, last + 9):
                entry = plain.some_entry(chance, number)
                if entry[0] != "undo" or entry[1] not in book:
                    later[number] = entry
            self.go_on(book, later)


if __name__ == "__main__":
    unittest.main()
