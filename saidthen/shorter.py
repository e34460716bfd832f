"""Shorter books: what is left when all is left out that nothing hangs on."""

from saidthen.asking import even_stretches
from saidthen.force import counting


def without(book, number):
    """A new book with all entries but the one of this number."""
    return {other: entry for other, entry in book.items() if other != number}


def gone_through(book, is_spare):
    """The book without the entries that are spare where they are met, the greatest number first."""
    left = book
    for number in sorted(book, reverse=True):
        if is_spare(left, number):
            left = without(left, number)
    return left


def cut_down(book, is_spare):
    """The book without spare entries, left out one by one till none of the rest is one by is_spare(rest, number)."""
    left = book
    while True:
        rest = gone_through(left, is_spare)
        if len(rest) == len(left):
            return rest
        # What was needed may be spare now: a clear, where the tell below it is gone.
        left = rest


def told_by(entry, known):
    """What its name has by this entry, where known tells what the names have ahead of it."""
    if entry[0] == "tell":
        return entry[4]
    if entry[0] == "like":
        return known.get(entry[4])
    return None


def known_on(book, day):
    """What each name has on the day by this book without undos: a dict, names that have nothing are not in it."""
    known = {}
    for number in sorted(book):
        entry = book[number]
        if entry[2] <= day <= entry[3]:
            known[entry[1]] = told_by(entry, known)
    return {name: worth for name, worth in known.items() if worth is not None}


def is_idle(book, number):
    """Whether each name has the same on each day by this book without undos if this entry is left out."""
    entry = book[number]
    rest = without(book, number)
    # On all other days the entry tells nothing.
    for first, _ in even_stretches(rest, entry[2], entry[3]):
        if known_on(rest, first) != known_on(book, first):
            return False
    return True


def short_behind(book, n):
    """The shorter book of what is known behind n."""
    left = {}
    # Cut down behind each entry, not once behind the last one: so it is one and the same whether or not the
    # book was made shorter behind an elder number.
    for number in counting(book, n):
        if book[number][0] != "undo":
            left = cut_down({**left, number: book[number]}, is_idle)
    return left


def shortened(book):
    """A new dict of entries by which each name has the same on each day, and none of which could be left out."""
    return short_behind(book, max(book, default=0))
