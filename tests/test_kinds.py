"""Of anything it is told, or it is refused, by what it is, and not by what it or its kind says of itself."""

import unittest

from saidthen.entries import is_day, is_name, is_worth, need_book, need_entry
from saidthen.errors import BadBook, BadEntry, BadText
from saidthen.keeper import Keeper
from saidthen.notes import read

TELL = ("tell", "tea", 3, 9, -40)
CLEAR = ("clear", "tea", 4, 4)
LIKE = ("like", "tea", 0, 9, "cup")
UNDO = ("undo", 1)
ENTRIES = (TELL, CLEAR, LIKE, UNDO)
BOOK = {1: TELL, 2: CLEAR, 3: LIKE, 4: UNDO}
TEXT = "1: tell tea 3 9 -40\n2: clear tea 4 4\n3: like tea 0 9 cup\n4: undo 1"

ANSWERS = ("__len__", "__iter__", "__getitem__", "__contains__", "__hash__", "__str__", "__repr__", "__int__",
           "__index__", "__bool__", "__eq__", "__ne__", "__lt__", "__le__", "__gt__", "__ge__")


class Alike(type):
    """A kind of kinds that say of themselves that they are any kind."""

    def __eq__(cls, other):
        return True

    def __ne__(cls, other):
        return False

    def __hash__(cls):
        return 1

    def __instancecheck__(cls, thing):
        return True


def not_so(*asked):
    raise RuntimeError("not so")


class SourKind(type):
    """A kind of kinds that cannot be asked anything."""

    __eq__ = __ne__ = __hash__ = __getattribute__ = __instancecheck__ = __repr__ = not_so


def passed_on(real, name):
    return lambda self, *more: getattr(real, name)(*more)


def mask_parts(real):
    parts = {name: passed_on(real, name) for name in ANSWERS if hasattr(real, name)}
    parts["__getattr__"] = lambda self, name: getattr(real, name)
    return parts


def masked(real, kind):
    """A thing of another kind than the real one's, which answers all that it is asked as the real one does."""
    return kind("Mask", (), mask_parts(real))()


def claiming(real, kind):
    """The same, and it says of itself that it is of the real one's kind."""
    return kind("Claim", (), {**mask_parts(real), "__class__": property(lambda self: type(real))})()


def derived(real, kind):
    """The real one as a thing of a kind derived from its own one."""
    return kind("Derived", (type(real),), {})(real)


def sour(real, kind):
    """A thing that cannot be asked anything, only held in a dict."""
    parts = {name: not_so for name in ANSWERS + ("__getattribute__",)}
    parts["__hash__"] = lambda self: 7
    return kind("Sour", (), parts)()


def unlike(real):
    """Things that are none of the real one's kind, each with what it is called in a test's report."""
    for make in (masked, claiming, derived, sour):
        for kind in (type, Alike, SourKind):
            yield f"{make.__name__} by {kind.__name__}", make(real, kind)


class Made(unittest.TestCase):
    def test_masks_answer_as_the_real_ones(self):
        for make in (masked, claiming):
            for kind in (type, Alike):
                self.assertTrue(type(make(5, kind)) is not int and 0 <= make(5, kind) <= 9)
                self.assertEqual(list(make(TELL, kind)), list(TELL))
                self.assertEqual(dict(make(BOOK, kind)), BOOK)
                self.assertEqual(make(TEXT, kind).split("\n"), TEXT.split("\n"))
        self.assertTrue(type(masked(5, Alike)) == int)
        self.assertTrue(isinstance(claiming(5, type), int))
        self.assertTrue(type(claiming(5, Alike)) == int and isinstance(claiming(5, Alike), int))

    def test_sour_ones_cannot_be_asked(self):
        with self.assertRaises(RuntimeError):
            len(sour("tea", type))
        with self.assertRaises(RuntimeError):
            type(sour("tea", SourKind)) == str
        with self.assertRaises(RuntimeError):
            isinstance(sour("tea", type), str)


class Kinds(unittest.TestCase):
    def refused(self, error, call, thing):
        with self.assertRaises(error) as caught:
            call(thing)
        self.assertIs(type(caught.exception), error)

    def no_entry(self, entry):
        """It is refused as an entry, alone, in a keeper that stays as it was, and in a book."""
        self.refused(BadEntry, need_entry, entry)
        keeper = Keeper()
        keeper.add(TELL)
        self.refused(BadEntry, keeper.add, entry)
        self.assertEqual((keeper.last(), keeper.floor(), keeper.book()), (1, 0, {1: TELL}))
        self.refused(BadBook, need_book, {9: entry})
        self.refused(BadBook, need_book, {1: TELL, 9: entry})

    def test_the_real_ones_are_taken(self):
        self.assertEqual([is_name("tea"), is_day(5), is_worth(5)], [True] * 3)
        self.assertEqual([need_entry(entry) for entry in ENTRIES], list(ENTRIES))
        self.assertEqual(need_book(BOOK), BOOK)
        self.assertEqual(read(TEXT), BOOK)

    def test_no_name_day_or_worth(self):
        for asked, real in ((is_name, "tea"), (is_name, "a"), (is_day, 0), (is_day, 5), (is_worth, -5), (is_worth, 0)):
            for called, thing in unlike(real):
                with self.subTest(asked=asked.__name__, real=real, thing=called):
                    self.assertIs(asked(thing), False)

    def test_no_entry(self):
        for entry in ENTRIES:
            for called, thing in unlike(entry):
                with self.subTest(entry=entry, thing=called):
                    self.no_entry(thing)

    def test_no_part_of_an_entry(self):
        for entry in ENTRIES:
            for place, real in enumerate(entry):
                for called, thing in unlike(real):
                    with self.subTest(entry=entry, place=place, thing=called):
                        self.no_entry(entry[:place] + (thing,) + entry[place + 1:])

    def test_no_book(self):
        for book in ({}, BOOK):
            for called, thing in unlike(book):
                with self.subTest(many=len(book), thing=called):
                    self.refused(BadBook, need_book, thing)

    def test_no_number_of_a_book(self):
        for called, thing in unlike(9):
            with self.subTest(thing=called):
                self.refused(BadBook, need_book, {thing: CLEAR})
                self.refused(BadBook, need_book, {1: TELL, thing: UNDO})

    def test_no_text(self):
        for text in ("", TEXT):
            for called, thing in unlike(text):
                with self.subTest(text=text, thing=called):
                    self.refused(BadText, read, thing)


if __name__ == "__main__":
    unittest.main()
