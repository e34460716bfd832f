"""What the program refuses: one class for each kind of refusal."""


class BookError(ValueError):
    """Any refusal."""


class BadEntry(BookError):
    """What was handed in is no entry."""


class BadBook(BookError):
    """What was handed in is no book."""


class NoEntry(BookError):
    """The number to be undone was not given yet."""


class Closed(BookError):
    """The number to be undone is not above the floor."""


class TooMany(BookError):
    """The keeper has as many entries as it may have."""


class Gone(BookError):
    """What was known behind a number less than the floor is not kept."""


class BadText(BookError):
    """No book is written as this text."""
