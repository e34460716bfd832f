"""A keeper: a book that grows by one entry after the other, and is made shorter at any time."""

from saidthen.asking import runs_of, worth_of
from saidthen.entries import MOST, need_entry
from saidthen.errors import Closed, Gone, NoEntry, TooMany
from saidthen.grounds import hangs_on
from saidthen.shorter import shortened


class Keeper:
    """A book, the greatest number that was given, and the floor."""

    def __init__(self):
        self._book = {}
        self._last = 0
        self._floor = 0

    def add(self, entry):
        """Takes the entry in, and tells its number; BadEntry, Closed, NoEntry, TooMany."""
        need_entry(entry)
        if entry[0] == "undo":
            self._need_undoable(entry[1])
        if len(self._book) >= MOST:
            raise TooMany("the keeper has as many entries as it may have")
        self._last += 1
        self._book[self._last] = entry
        return self._last

    def shorten(self):
        """Makes the book shorter, and tells how many entries were left out."""
        before = len(self._book)
        self._book = shortened(self._book)
        self._floor = self._last
        return before - len(self._book)

    def worth(self, n, name, day):
        """What the name has on the day behind n: a worth or None; Gone."""
        self._need_kept(n)
        return worth_of(self._book, n, name, day)

    def runs(self, n, name, low, high):
        """The runs of the name from low to high behind n; Gone."""
        self._need_kept(n)
        return runs_of(self._book, n, name, low, high)

    def why(self, n, name, low, high):
        """The numbers of the entries that these runs hang on; Gone."""
        self._need_kept(n)
        return hangs_on(self._book, n, name, low, high)

    def last(self):
        """The greatest number that was given, 0 if none."""
        return self._last

    def floor(self):
        """The greatest number that was given when the book was made shorter last, 0 if none."""
        return self._floor

    def book(self):
        """A new dict with the entries."""
        return dict(self._book)

    def _need_undoable(self, number):
        """Refuses the number of an entry that cannot be undone."""
        if number <= self._floor:
            raise Closed("no entry with a number up to the floor can be undone")
        if number > self._last:
            raise NoEntry("this number was not given yet")

    def _need_kept(self, n):
        """Refuses a number behind which nothing can be asked any more."""
        if n < self._floor:
            raise Gone("nothing is kept of what was known behind a number less than the floor")
