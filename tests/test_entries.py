import unittest

from saidthen.entries import MOST, is_day, is_name, is_worth, need_book, need_entry
from saidthen.errors import BadBook, BadEntry


class Odd:
    """An object that says yes to every comparison."""

    def __eq__(self, other):
        return True

    def __hash__(self):
        return hash("tell")

    def __le__(self, other):
        return True

    def __ge__(self, other):
        return True

    def __len__(self):
        return 5


class Sour:
    """An object that cannot be asked anything, not even of what class it is."""

    @property
    def __class__(self):
        raise RuntimeError("not so")

    def __eq__(self, other):
        raise RuntimeError("not so")

    def __hash__(self):
        raise RuntimeError("not so")

    def __len__(self):
        raise RuntimeError("not so")

    def __iter__(self):
        raise RuntimeError("not so")

    def __repr__(self):
        raise RuntimeError("not so")


def anything():
    return [None, True, False, 1.0, 2.5, b"tea", [], {}, (), set(), ("tea",), ["tea"], Odd(), Sour(), int, len]


class Names(unittest.TestCase):
    def test_names(self):
        for text in ("a", "z", "tea", "abcdefgh", "zzzzzzzz"):
            self.assertIs(is_name(text), True, text)

    def test_no_names(self):
        for text in ("", "abcdefghi", "Tea", "teA", "TEA", "te4", "4", "t a", " tea", "tea ", "tea\n", "\n", "t-a",
                     "t_a", "`", "{", "te\u00e9", "\u00e4", "\u0430", "\u00df", "\uff41", "a\u0301", "\ud800", "\0"):
            self.assertIs(is_name(text), False, repr(text))

    def test_things_that_are_no_texts(self):
        for thing in anything() + [7, ["a", "b"], ("a", "b")]:
            self.assertIs(is_name(thing), False)


class Days(unittest.TestCase):
    def test_days(self):
        for day in (0, 1, 999999, 1000000):
            self.assertIs(is_day(day), True, day)

    def test_no_days(self):
        for day in (-1, 1000001, -1000000, 10 ** 30, -10 ** 30):
            self.assertIs(is_day(day), False, day)

    def test_things_that_are_no_whole_numbers(self):
        for thing in anything() + ["5", "tea"]:
            self.assertIs(is_day(thing), False)


class Worths(unittest.TestCase):
    def test_worths(self):
        for worth in (0, 1, -1, 1000000000, -1000000000):
            self.assertIs(is_worth(worth), True, worth)

    def test_no_worths(self):
        for worth in (1000000001, -1000000001, 10 ** 30, -10 ** 30):
            self.assertIs(is_worth(worth), False, worth)

    def test_things_that_are_no_whole_numbers(self):
        for thing in anything() + ["5", "tea"]:
            self.assertIs(is_worth(thing), False)


GOOD = (
    ("tell", "tea", 3, 9, -40),
    ("tell", "a", 0, 1000000, 1000000000),
    ("tell", "abcdefgh", 7, 7, -1000000000),
    ("clear", "tea", 4, 5),
    ("clear", "tea", 0, 0),
    ("clear", "tea", 1000000, 1000000),
    ("like", "tea", 0, 9, "cup"),
    ("like", "tea", 9, 9, "tea"),
    ("tell", "undo", 0, 9, 1),
    ("like", "tell", 0, 9, "clear"),
    ("undo", 1),
    ("undo", 10 ** 30),
)

BAD = (
    # parts of the wrong worth
    ("tell", "", 3, 9, 1), ("tell", "abcdefghi", 3, 9, 1), ("tell", "Tea", 3, 9, 1),
    ("tell", "tea", -1, 9, 1), ("tell", "tea", 3, 1000001, 1), ("tell", "tea", 9, 3, 1), ("tell", "tea", 1, 0, 1),
    ("tell", "tea", 3, 9, 1000000001), ("tell", "tea", 3, 9, -1000000001),
    ("clear", "Tea", 3, 9), ("clear", "tea", -1, 9), ("clear", "tea", 3, 1000001), ("clear", "tea", 9, 3),
    ("like", "Tea", 3, 9, "cup"), ("like", "tea", -1, 9, "cup"), ("like", "tea", 3, 1000001, "cup"),
    ("like", "tea", 9, 3, "cup"), ("like", "tea", 3, 9, "Cup"), ("like", "tea", 3, 9, ""),
    ("like", "tea", 3, 9, "abcdefghi"), ("undo", 0), ("undo", -1),
    # parts of the wrong kind
    ("tell", 7, 3, 9, 1), ("tell", "tea", "3", 9, 1), ("tell", "tea", 3, None, 1), ("tell", "tea", 3, 9, "1"),
    ("tell", "tea", 3, 9, None), ("tell", "tea", 3.0, 9, 1), ("tell", "tea", 3, 9, 1.0), ("tell", b"tea", 3, 9, 1),
    ("clear", None, 3, 9), ("clear", "tea", [3], 9), ("like", "tea", 3, 9, 5), ("like", "tea", 3, 9, None),
    ("undo", "1"), ("undo", None), ("undo", 1.0), ("undo", (1,)),
    # True and False for a number
    ("tell", "tea", False, 9, 1), ("tell", "tea", 0, True, 1), ("tell", "tea", 3, 9, True),
    ("tell", "tea", 3, 9, False),
    ("clear", "tea", False, 9), ("clear", "tea", 0, True), ("like", "tea", False, 9, "cup"),
    ("like", "tea", 0, True, "cup"), ("undo", True), ("undo", False),
    # a part more, a part fewer
    ("tell", "tea", 3, 9), ("tell", "tea", 3, 9, 1, 1), ("tell",), ("clear", "tea", 3), ("clear", "tea", 3, 9, 1),
    ("clear",), ("like", "tea", 3, 9), ("like", "tea", 3, 9, "cup", "pot"), ("like",), ("undo",), ("undo", 1, 1),
    # something else than the tuple
    ["tell", "tea", 3, 9, 1], ["undo", 1], "tell tea 3 9 1", "undo", {"undo": 1}, {1: ("undo", 1)},
    # another first word
    ("Tell", "tea", 3, 9, 1), ("told", "tea", 3, 9, 1), ("", "tea", 3, 9, 1), ("redo", 1), (b"undo", 1), (None, 1),
    (1, "undo"), ("tell ", "tea", 3, 9, 1), (("undo", 1),), (["tell"], "tea", 3, 9, 1), ([], []), ({}, 1),
)


class NeedEntry(unittest.TestCase):
    def test_tells_the_entry(self):
        for entry in GOOD:
            self.assertEqual(need_entry(entry), entry)
            self.assertIs(type(need_entry(entry)), tuple)

    def test_refuses_what_is_none(self):
        for entry in BAD:
            with self.assertRaises(BadEntry, msg=repr(entry)):
                need_entry(entry)

    def test_refuses_anything_else(self):
        for thing in anything() + [7, "tea"]:
            with self.assertRaises(BadEntry):
                need_entry(thing)

    def test_refuses_own_objects_as_parts(self):
        for good in (("tell", "tea", 3, 9, 1), ("clear", "tea", 4, 5), ("like", "tea", 0, 9, "cup"), ("undo", 1)):
            for place in range(len(good)):
                for thing in (Odd(), Sour()):
                    entry = good[:place] + (thing,) + good[place + 1:]
                    with self.assertRaises(BadEntry):
                        need_entry(entry)


class NeedBook(unittest.TestCase):
    def tell(self, many):
        return {number: ("tell", "tea", 0, 9, number) for number in range(1, many + 1)}

    def refused(self, book):
        with self.assertRaises(BadBook):
            need_book(book)

    def test_most_is_thirty(self):
        self.assertEqual(MOST, 30)

    def test_tells_the_same(self):
        for book in ({}, self.tell(1), self.tell(30), dict(enumerate(GOOD[:-1], start=2))):
            self.assertEqual(need_book(book), book)
            self.assertIs(type(need_book(book)), dict)

    def test_refuses_more_than_thirty(self):
        self.refused(self.tell(31))
        self.refused(self.tell(100))

    def test_takes_gaps_and_any_order(self):
        book = {10 ** 12: ("undo", 7), 7: ("clear", "tea", 1, 2), 900: ("undo", 899), 3: ("tell", "cup", 0, 0, 0)}
        self.assertEqual(need_book(book), book)

    def test_refuses_wrong_numbers(self):
        for number in (0, -1, -10 ** 12, True, False, "1", "", None, 1.0, 2.5, (1,), b"1", Odd()):
            self.refused({number: ("clear", "tea", 1, 2)})
            self.refused({5: ("clear", "tea", 1, 2), number: ("clear", "tea", 1, 2)})

    def test_an_undo_names_a_lesser_number(self):
        clear = ("clear", "tea", 1, 2)
        self.refused({1: ("undo", 1)})
        self.refused({1: clear, 2: ("undo", 2)})
        self.refused({1: clear, 2: ("undo", 3)})
        self.refused({1: clear, 2: ("undo", 3), 3: clear})
        for book in ({1: clear, 2: ("undo", 1)}, {2: ("undo", 1)}, {9: ("undo", 8)}, {9: ("undo", 1), 8: ("undo", 1)}):
            self.assertEqual(need_book(book), book)

    def test_refuses_a_wrong_entry_among_good_ones(self):
        for entry in BAD:
            book = self.tell(3)
            book[2] = entry
            self.refused(book)
        for thing in anything():
            self.refused({1: ("clear", "tea", 1, 2), 2: thing})

    def test_refuses_something_else_than_a_dict(self):
        things = [thing for thing in anything() if type(thing) is not dict]
        for thing in things + [0, 1, "", "1: undo 3", [("undo", 1)], [(2, ("undo", 1))], ((2, ("undo", 1)),)]:
            self.refused(thing)

    def test_the_told_dict_is_another_one(self):
        book = self.tell(2)
        told = need_book(book)
        self.assertIsNot(told, book)
        book[3] = ("clear", "tea", 1, 2)
        del book[1]
        self.assertEqual(told, self.tell(2))
        told.clear()
        self.assertEqual(sorted(book), [2, 3])


if __name__ == "__main__":
    unittest.main()
