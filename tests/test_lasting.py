"""What was known stays known [10], and nothing that is handed in or told is shared [1]."""

import copy
import random
import unittest

from saidthen.asking import became_of, came_about, runs_of, worth_of
from saidthen.entries import is_day, is_name, is_worth, need_book, need_entry
from saidthen.force import counting
from saidthen.grounds import hangs_on
from saidthen.keeper import Keeper
from saidthen.notes import read, shown, written
from saidthen.shorter import shortened

from tests import plain

BOOK = {
    4: ("like", "cup", 2, 7, "tea"),
    1: ("tell", "tea", 0, 9, 5),
    6: ("undo", 3),
    3: ("clear", "tea", 4, 5),
    9: ("tell", "cup", 6, 6, -1),
}


def answers(book, n):
    """All that is told behind n."""
    return [
        counting(book, n),
        [worth_of(book, n, name, day) for name in plain.NAMES for day in range(plain.DAYS + 2)],
        [runs_of(book, n, name, 0, 20) for name in plain.NAMES],
        [hangs_on(book, n, name, 0, 20) for name in plain.NAMES],
        [became_of(book, n // 2, n, name, 0, 20) for name in plain.NAMES],
        [[pair for pair in came_about(book, name, day) if pair[0] <= n] for name in plain.NAMES for day in (0, 6, 12)],
    ]


class WhatWasKnown(unittest.TestCase):
    def test_later_entries_change_nothing_behind_an_elder_number(self):
        book = {1: ("tell", "tea", 0, 9, 5), 2: ("undo", 1), 3: ("like", "cup", 0, 9, "tea")}
        for later in (("undo", 1), ("undo", 2), ("undo", 3), ("tell", "tea", 0, 9, 6), ("clear", "cup", 0, 9),
                      ("like", "tea", 0, 9, "cup"), ("like", "cup", 0, 9, "cup")):
            more = {**book, 4: later, 8: ("undo", 4), 9: ("undo", 8)}
            for n in range(4):
                self.assertEqual(answers(more, n), answers(book, n), (later, n))

    def test_books_by_chance_with_later_entries(self):
        chance = random.Random(11)
        for book in plain.some_books(40, 10):
            last = max(book, default=0)
            told = [answers(book, n) for n in range(last + 1)]
            more = dict(book)
            for number in range(last + 1, last + 8):
                more[number] = plain.some_entry(chance, number)
                for n in range(last + 1):
                    self.assertEqual(answers(more, n), told[n], (more, n))


class NothingIsShared(unittest.TestCase):
    def asked(self, book):
        return [
            need_book(book),
            counting(book, 9),
            runs_of(book, 9, "cup", 0, 20),
            came_about(book, "cup", 6),
            became_of(book, 1, 9, "cup", 0, 20),
            hangs_on(book, 9, "cup", 0, 20),
            shortened(book),
            read(written(book)),
        ]

    def test_the_book_handed_in_is_as_it_was(self):
        book = copy.deepcopy(BOOK)
        self.asked(book)
        worth_of(book, 9, "cup", 6)
        for entry in book.values():
            shown(entry)
        self.assertEqual(list(book.items()), list(BOOK.items()))

    def test_what_is_told_may_be_changed(self):
        book = copy.deepcopy(BOOK)
        expected = copy.deepcopy(self.asked(book))
        for told in self.asked(book):
            self.assertTrue(told)
            told.clear()
        self.assertEqual(book, BOOK)
        self.assertEqual(self.asked(book), expected)
        self.assertEqual(self.asked(copy.deepcopy(BOOK)), expected)

    def test_what_is_done_to_the_book_later_changes_nothing_told(self):
        book = copy.deepcopy(BOOK)
        told = self.asked(book)
        expected = copy.deepcopy(told)
        book.clear()
        book[1] = ("tell", "cup", 0, 20, 8)
        self.asked(book)
        self.assertEqual(told, expected)

    def test_empty_answers_are_the_askers_own_too(self):
        runs_of({}, 0, "tea", 0, 9).append("mine")
        counting({}, 0).append("mine")
        became_of({}, 0, 0, "tea", 0, 9).append("mine")
        came_about({}, "tea", 5).append("mine")
        need_book({})[1] = "mine"
        hangs_on({}, 0, "tea", 0, 9).append("mine")
        shortened({})[1] = "mine"
        read("")[1] = "mine"
        Keeper().book()[1] = "mine"
        self.assertEqual(runs_of({}, 0, "tea", 0, 9), [])
        self.assertEqual(counting({}, 0), [])
        self.assertEqual(became_of({}, 0, 0, "tea", 0, 9), [])
        self.assertEqual(came_about({}, "tea", 5), [(0, None)])
        self.assertEqual(need_book({}), {})
        self.assertEqual(hangs_on({}, 0, "tea", 0, 9), [])
        self.assertEqual(shortened({}), {})
        self.assertEqual(read(""), {})
        self.assertEqual(Keeper().book(), {})

    def test_what_is_looked_at_is_as_it_was(self):
        things = [[1, 2], {"a": 1}, ["tell", "tea", 0, 9, 1], {1: ["undo", 1]}]
        before = copy.deepcopy(things)
        for thing in things:
            for look in (is_name, is_day, is_worth, need_entry, need_book, read, Keeper().add):
                try:
                    look(thing)
                except ValueError:
                    pass
        self.assertEqual(things, before)

    def test_told_by_two_keepers_is_apart(self):
        keepers = [Keeper(), Keeper()]
        for keeper in keepers:
            keeper.add(("tell", "tea", 0, 9, 5))
            keeper.shorten()
        keepers[0].add(("clear", "tea", 0, 9))
        keepers[0].shorten()
        self.assertEqual([keeper.book() for keeper in keepers], [{}, {1: ("tell", "tea", 0, 9, 5)}])


if __name__ == "__main__":
    unittest.main()
