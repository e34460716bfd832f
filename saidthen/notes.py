"""Entries and books as texts."""

from saidthen.entries import is_book
from saidthen.errors import BadText


def shown(entry):
    """The entry as a text."""
    return " ".join([str(part) for part in entry])


def written(book):
    """The book as a text."""
    return "\n".join([f"{number}: {shown(book[number])}" for number in sorted(book)])


def part_of(word):
    """The number that the word is made of, or else the word."""
    figures = word[1:] if word.startswith("-") else word
    # Figures are looked at one by one, because int takes more than these.
    if figures == "" or not all(["0" <= sign <= "9" for sign in figures]):
        return word
    return int(word)


def taken_apart(text):
    """What stands on the lines of the text, as a dict that need not be a book."""
    found = {}
    for line in text.split("\n"):
        number, _, entry = line.partition(": ")
        found[part_of(number)] = tuple([part_of(word) for word in entry.split(" ")])
    return found


def read(text):
    """The book that is written as this text; BadText of what no book is written as."""
    if type(text) is not str:
        raise BadText("this is no text")
    if text == "":
        return {}
    book = taken_apart(text)
    # The same book may stand there otherwise, with lines in another order or more figures than there should be.
    if not is_book(book) or written(book) != text:
        raise BadText("no book is written as this text")
    return book
