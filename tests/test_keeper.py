import random
import unittest

from saidthen.asking import runs_of, worth_of
from saidthen.entries import MOST
from saidthen.errors import BadEntry, Closed, Gone, NoEntry, TooMany
from saidthen.grounds import hangs_on
from saidthen.keeper import Keeper
from saidthen.shorter import shortened

from tests import plain

LAST = plain.LAST
TEA = ("tell", "tea", 0, 9, 5)
SPANS = ((0, 14), (4, 8), (6, 6))


def keeper_of(*entries):
    keeper = Keeper()
    for entry in entries:
        keeper.add(entry)
    return keeper


def full():
    """A keeper with 30 entries that all stay when it is made shorter."""
    return keeper_of(*[("tell", "tea", day, day, day) for day in range(MOST)])


def answers(keeper, n, names=plain.NAMES, spans=SPANS):
    """What the keeper tells of what was known behind n."""
    return [
        [keeper.worth(n, name, day) for name in names for day in range(plain.DAYS + 2)],
        [keeper.runs(n, name, low, high) for name in names for low, high in spans],
        [keeper.why(n, name, low, high) for name in names for low, high in spans],
    ]


def state(keeper):
    """The numbers and the book that the keeper tells, and some answers."""
    floor, last = keeper.floor(), keeper.last()
    told = [answers(keeper, n, ["tea"], [(0, LAST)]) for n in (floor, last, last + 5)]
    return [floor, last, keeper.book(), told]


class Numbers(unittest.TestCase):
    def test_a_new_keeper(self):
        keeper = Keeper()
        self.assertEqual((keeper.last(), keeper.floor(), keeper.book()), (0, 0, {}))
        self.assertIs(keeper.worth(0, "tea", 5), None)
        self.assertEqual(keeper.runs(0, "tea", 0, LAST), [])
        self.assertEqual(keeper.why(3, "tea", 0, LAST), [])

    def test_numbers_one_by_one(self):
        keeper = Keeper()
        entries = [TEA, ("undo", 1), ("clear", "tea", 3, 3), ("like", "cup", 0, 9, "tea"), ("undo", 2)]
        for number, entry in enumerate(entries, 1):
            self.assertEqual(keeper.add(entry), number)
            self.assertEqual(keeper.last(), number)
            self.assertEqual(keeper.floor(), 0)
            self.assertEqual(keeper.book(), dict(enumerate(entries[:number], 1)))

    def test_numbers_go_on_behind_a_shorten(self):
        keeper = keeper_of(TEA, TEA, ("undo", 2))
        self.assertEqual(keeper.shorten(), 2)
        self.assertEqual(keeper.book(), {1: TEA})
        self.assertEqual((keeper.last(), keeper.floor()), (3, 3))
        self.assertEqual(keeper.add(("clear", "tea", 4, 4)), 4)
        self.assertEqual((keeper.last(), keeper.floor()), (4, 3))
        self.assertEqual(keeper.book(), {1: TEA, 4: ("clear", "tea", 4, 4)})

    def test_keepers_are_apart(self):
        one, other = keeper_of(TEA), Keeper()
        one.shorten()
        self.assertEqual((other.last(), other.floor(), other.book()), (0, 0, {}))
        other.add(("clear", "cup", 1, 1))
        self.assertEqual(one.book(), {1: TEA})


class Shorten(unittest.TestCase):
    def test_an_empty_keeper(self):
        keeper = Keeper()
        self.assertEqual([keeper.shorten(), keeper.shorten()], [0, 0])
        self.assertEqual((keeper.last(), keeper.floor(), keeper.book()), (0, 0, {}))
        self.assertEqual(keeper.add(TEA), 1)

    def test_twice(self):
        keeper = keeper_of(TEA, ("tell", "tea", 0, 20, 6), ("undo", 1))
        self.assertEqual(keeper.shorten(), 2)
        before = state(keeper)
        self.assertEqual(keeper.shorten(), 0)
        self.assertEqual(state(keeper), before)

    def test_behind_each_entry(self):
        keeper = Keeper()
        expected = ((TEA, 0), (("tell", "tea", 0, 9, 6), 1), (("like", "cup", 0, 9, "tea"), 0),
                    (("clear", "tea", 0, 9), 0), (("clear", "cup", 0, 9), 4))
        for number, (entry, gone) in enumerate(expected, 1):
            before = len(keeper.book())
            self.assertEqual(keeper.add(entry), number)
            self.assertEqual(keeper.shorten(), gone)
            self.assertEqual(len(keeper.book()), before + 1 - gone)
            self.assertEqual((keeper.floor(), keeper.last()), (number, number))
        self.assertEqual(keeper.book(), {})

    def test_the_floor_is_the_greatest_number_also_when_it_was_left_out(self):
        keeper = keeper_of(TEA, ("clear", "cup", 0, 9))
        self.assertEqual(keeper.shorten(), 1)
        self.assertEqual(keeper.book(), {1: TEA})
        self.assertEqual(keeper.floor(), 2)
        keeper = keeper_of(TEA, ("undo", 1))
        self.assertEqual(keeper.shorten(), 2)
        self.assertEqual((keeper.floor(), keeper.last(), keeper.book()), (2, 2, {}))

    def test_the_book_is_a_shorter_book(self):
        chance = random.Random(31)
        for _ in range(60):
            keeper = keeper_of(*[plain.some_entry(chance, number) for number in range(1, 15)])
            before = keeper.book()
            gone = keeper.shorten()
            self.assertEqual(keeper.book(), shortened(before))
            self.assertEqual(gone, len(before) - len(keeper.book()))
            self.assertEqual(keeper.floor(), 14)

    def test_30_entries_that_all_stay(self):
        keeper = full()
        book = keeper.book()
        self.assertEqual(keeper.shorten(), 0)
        self.assertEqual(keeper.book(), book)
        self.assertEqual(keeper.floor(), 30)
        with self.assertRaises(TooMany):
            keeper.add(TEA)
        self.assertEqual(keeper.why(30, "tea", 0, LAST), list(range(1, 31)))


class Asking(unittest.TestCase):
    def test_as_by_the_book(self):
        chance = random.Random(32)
        for _ in range(20):
            keeper = keeper_of(*[plain.some_entry(chance, number) for number in range(1, 13)])
            book = keeper.book()
            for n in (0, 5, 12, 40):
                for name in plain.NAMES:
                    self.assertEqual(keeper.worth(n, name, 6), worth_of(book, n, name, 6))
                    self.assertEqual(keeper.runs(n, name, 2, 9), runs_of(book, n, name, 2, 9))
                    self.assertEqual(keeper.why(n, name, 2, 9), hangs_on(book, n, name, 2, 9))

    def test_as_if_never_made_shorter(self):
        chance = random.Random(33)
        for _ in range(40):
            one, other = Keeper(), Keeper()
            for number in range(1, 25):
                entry = plain.some_entry(chance, number)
                if entry[0] == "undo" and entry[1] <= one.floor():
                    entry = TEA
                self.assertEqual([one.add(entry), other.add(entry)], [number, number])
                if chance.randint(0, 4) == 0:
                    one.shorten()
                    self.assertEqual(answers(one, number), answers(other, number))
            for n in range(one.floor(), one.last() + 3):
                self.assertEqual(answers(one, n), answers(other, n), (one.book(), other.book(), n))

    def test_why_names_the_same_entries_and_these_are_still_there(self):
        # Behind the third entry the first one would do as well as the second one, but it is left out by then.
        entries = [("tell", "tea", 0, 0, 5), ("tell", "tea", 0, 1, 5)]
        one, other = keeper_of(*entries), keeper_of(*entries)
        self.assertEqual(one.shorten(), 1)
        self.assertEqual(one.book(), {2: entries[1]})
        for keeper in (one, other):
            keeper.add(("tell", "tea", 1, 2, 6))
            self.assertEqual(keeper.why(2, "tea", 0, 2), [2])
            self.assertEqual(keeper.why(3, "tea", 0, 2), [2, 3])

    def test_more_than_30_entries_in_all(self):
        chance = random.Random(34)
        keeper, book = Keeper(), {}
        while keeper.last() < 90:
            entry = plain.some_entry(chance, keeper.last() + 1)
            if entry[0] == "undo" and entry[1] <= keeper.floor():
                continue
            number = keeper.add(entry)
            book[number] = entry
            self.assertEqual(number, len(book))
            if len(keeper.book()) > 24:
                keeper.shorten()
            if number % 10 == 0:
                for name in plain.NAMES:
                    told = keeper.runs(number, name, 0, LAST)
                    self.assertEqual(told, runs_of(book, number, name, 0, LAST))
                    self.assertEqual(keeper.why(number, name, 0, LAST), hangs_on(book, number, name, 0, LAST))

    def test_gone_below_the_floor_alone(self):
        keeper = keeper_of(TEA, ("tell", "tea", 5, 9, 6), ("clear", "cup", 0, 9))
        keeper.shorten()
        keeper.add(("clear", "tea", 0, 0))
        before = state(keeper)
        for n in (0, 1, 2):
            with self.assertRaises(Gone):
                keeper.worth(n, "tea", 5)
            with self.assertRaises(Gone):
                keeper.runs(n, "tea", 0, 9)
            with self.assertRaises(Gone):
                keeper.why(n, "tea", 0, 9)
        self.assertEqual(state(keeper), before)
        self.assertEqual(keeper.worth(3, "tea", 5), 6)
        self.assertEqual(keeper.runs(3, "tea", 0, 9), [(0, 4, 5), (5, 9, 6)])
        self.assertEqual(keeper.why(3, "tea", 0, 9), [1, 2])
        self.assertEqual(keeper.runs(4, "tea", 0, 9), [(1, 4, 5), (5, 9, 6)])
        self.assertEqual(keeper.why(99, "tea", 0, 9), [1, 2, 4])

    def test_nothing_is_gone_ahead_of_a_shorten(self):
        keeper = keeper_of(TEA, ("clear", "tea", 0, 9))
        self.assertEqual([keeper.worth(n, "tea", 5) for n in range(4)], [None, 5, None, None])


class Refusals(unittest.TestCase):
    def refuses(self, keeper, entry, error):
        before = state(keeper)
        with self.assertRaises(error) as caught:
            keeper.add(entry)
        self.assertIs(type(caught.exception), error)
        self.assertEqual(state(keeper), before)

    BAD = (None, True, 7, "tell tea 0 9 5", b"", [], {}, (), ("tell",), ["tell", "tea", 0, 9, 5],
           ("tell", "Tea", 0, 9, 5), ("tell", "tea", 9, 0, 5), ("tell", "tea", 0, LAST + 1, 5),
           ("tell", "tea", -1, 9, 5), ("tell", "tea", 0, 9, 10 ** 9 + 1), ("tell", "tea", 0, 9, True),
           ("tell", "tea", 0, 9, None), ("tell", "tea", 0, 9), ("clear", "tea", 0, 9, 5), ("like", "tea", 0, 9, 5),
           ("undo", 0), ("undo", -1), ("undo", True), ("undo", "1"), ("undo", 1, 1), ("undo",), ("ask", "tea", 0, 9))

    def test_no_entry(self):
        for entry in self.BAD:
            self.refuses(keeper_of(TEA, TEA), entry, BadEntry)
            self.refuses(Keeper(), entry, BadEntry)

    def test_closed(self):
        keeper = keeper_of(TEA, ("tell", "tea", 0, 9, 6), ("clear", "cup", 0, 9))
        keeper.shorten()
        for number in (1, 2, 3):
            self.refuses(keeper, ("undo", number), Closed)
        keeper.add(("undo", keeper.add(TEA)))
        for number in (1, 2, 3):
            self.refuses(keeper, ("undo", number), Closed)
        keeper.shorten()
        for number in (1, 4, 5):
            self.refuses(keeper, ("undo", number), Closed)

    def test_not_given_yet(self):
        for number in (1, 2, 30, 10 ** 30):
            self.refuses(Keeper(), ("undo", number), NoEntry)
        keeper = keeper_of(TEA, TEA)
        for number in (3, 4, 10 ** 30):
            self.refuses(keeper, ("undo", number), NoEntry)
        keeper.shorten()
        for number in (3, 4):
            self.refuses(keeper, ("undo", number), NoEntry)

    def test_an_undo_is_taken_when_its_number_was_given(self):
        keeper = Keeper()
        self.refuses(keeper, ("undo", 1), NoEntry)
        self.assertEqual(keeper.add(TEA), 1)
        self.refuses(keeper, ("undo", 2), NoEntry)
        self.assertEqual(keeper.add(("undo", 1)), 2)
        self.assertEqual(keeper.add(("undo", 2)), 3)
        self.assertEqual([keeper.worth(n, "tea", 5) for n in range(4)], [None, 5, None, 5])

    def test_an_undo_above_the_floor(self):
        keeper = keeper_of(TEA)
        keeper.shorten()
        keeper.add(("tell", "tea", 0, 9, 6))
        self.assertEqual(keeper.add(("undo", 2)), 3)
        self.assertEqual([keeper.worth(n, "tea", 5) for n in (1, 2, 3)], [5, 6, 5])

    def test_too_many(self):
        keeper = full()
        for entry in (TEA, ("clear", "tea", 0, 9), ("like", "cup", 0, 9, "tea"), ("undo", 1), ("undo", 30)):
            self.refuses(keeper, entry, TooMany)
        keeper.shorten()
        for entry in (TEA, ("clear", "tea", 0, 9), ("like", "cup", 0, 9, "tea")):
            self.refuses(keeper, entry, TooMany)

    def test_the_30th_is_taken(self):
        keeper = keeper_of(*[TEA] * 29)
        self.assertEqual(keeper.add(("undo", 29)), 30)
        self.refuses(keeper, TEA, TooMany)

    def test_an_entry_is_taken_when_there_is_room_again(self):
        keeper = keeper_of(*[TEA] * 30)
        self.refuses(keeper, TEA, TooMany)
        self.assertEqual(keeper.shorten(), 29)
        self.assertEqual(keeper.add(("tell", "tea", 3, 3, 6)), 31)
        self.assertEqual(keeper.runs(31, "tea", 0, 20), [(0, 2, 5), (3, 3, 6), (4, 9, 5)])
        self.assertEqual(keeper.add(("undo", 31)), 32)

    def test_a_bad_entry_in_a_full_keeper(self):
        for entry in self.BAD:
            self.refuses(full(), entry, BadEntry)

    def test_an_undo_of_a_closed_number_in_a_full_keeper(self):
        keeper = full()
        keeper.shorten()
        for number in (1, 29, 30):
            self.refuses(keeper, ("undo", number), Closed)

    def test_an_undo_of_a_number_not_given_in_a_full_keeper(self):
        keeper = full()
        for number in (31, 32, 10 ** 9):
            self.refuses(keeper, ("undo", number), NoEntry)
        keeper.shorten()
        self.refuses(keeper, ("undo", 31), NoEntry)

    def test_a_refused_entry_gets_no_number(self):
        keeper = full()
        self.refuses(keeper, TEA, TooMany)
        self.refuses(keeper, ("tell",), BadEntry)
        self.assertEqual(keeper.last(), 30)
        keeper = keeper_of(TEA)
        self.refuses(keeper, ("undo", 2), NoEntry)
        self.assertEqual(keeper.add(TEA), 2)


class NothingIsShared(unittest.TestCase):
    def test_a_told_book_may_be_changed(self):
        for many in (0, 1, 2):
            keeper = keeper_of(TEA, ("clear", "tea", 4, 4), TEA)
            for _ in range(many):
                keeper.shorten()
            before = state(keeper)
            book = keeper.book()
            book[keeper.last()] = ("tell", "tea", 0, LAST, 9)
            book[keeper.last() + 1] = ("undo", 1)
            self.assertEqual(state(keeper), before)
            book.clear()
            self.assertEqual(state(keeper), before)
            keeper.shorten()
            self.assertEqual(book, {})

    def test_a_told_book_stays(self):
        keeper = keeper_of(TEA, TEA)
        book = keeper.book()
        keeper.add(("undo", 1))
        keeper.shorten()
        self.assertEqual(book, {1: TEA, 2: TEA})

    def test_told_lists_may_be_changed(self):
        keeper = keeper_of(TEA, ("clear", "tea", 4, 4))
        keeper.runs(2, "tea", 0, 9).clear()
        keeper.why(2, "tea", 0, 9).clear()
        keeper.why(2, "cup", 0, 9).append(7)
        self.assertEqual(keeper.runs(2, "tea", 0, 9), [(0, 3, 5), (5, 9, 5)])
        self.assertEqual(keeper.why(2, "tea", 0, 9), [1, 2])
        self.assertEqual(keeper.why(2, "cup", 0, 9), [])


if __name__ == "__main__":
    unittest.main()
