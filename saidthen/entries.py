"""Names, days, worths, entries and books: what is one, and what is none."""

from saidthen.errors import BadBook, BadEntry

MOST = 30
LONGEST_NAME = 8
LAST_DAY = 1000000
GREATEST_WORTH = 1000000000

# What is handed in may be anything, also an object that answers falsely or with an error when it is
# compared or measured. So the kind of a thing is always asked before anything else about it. It is asked
# by "is" alone: what "==" tells of a kind is up to this kind, what isinstance tells is up to the thing.


def is_whole(thing):
    """Whether it is a whole number."""
    # isinstance would also take True and False.
    return type(thing) is int


def is_number(thing):
    """Whether an entry may have it as its number."""
    return is_whole(thing) and thing >= 1


def is_name(thing):
    """Whether it is a name."""
    if type(thing) is not str or not 1 <= len(thing) <= LONGEST_NAME:
        return False
    return all(["a" <= sign <= "z" for sign in thing])


def is_day(thing):
    """Whether it is a day."""
    return is_whole(thing) and 0 <= thing <= LAST_DAY


def is_worth(thing):
    """Whether it is a worth."""
    return is_whole(thing) and -GREATEST_WORTH <= thing <= GREATEST_WORTH


def are_days(low, high):
    """Whether these are the first and the last one of some days."""
    return is_day(low) and is_day(high) and low <= high


def is_tell(entry):
    """Whether a tuple that begins with "tell" is an entry."""
    if len(entry) != 5:
        return False
    _, name, low, high, worth = entry
    return is_name(name) and are_days(low, high) and is_worth(worth)


def is_clear(entry):
    """Whether a tuple that begins with "clear" is an entry."""
    if len(entry) != 4:
        return False
    _, name, low, high = entry
    return is_name(name) and are_days(low, high)


def is_like(entry):
    """Whether a tuple that begins with "like" is an entry."""
    if len(entry) != 5:
        return False
    _, name, low, high, other = entry
    return is_name(name) and are_days(low, high) and is_name(other)


def is_undo(entry):
    """Whether a tuple that begins with "undo" is an entry."""
    return len(entry) == 2 and is_number(entry[1])


FORMS = {"tell": is_tell, "clear": is_clear, "like": is_like, "undo": is_undo}


def is_entry(thing):
    """Whether it is an entry."""
    if type(thing) is not tuple or len(thing) == 0:
        return False
    word = thing[0]
    if type(word) is not str or word not in FORMS:
        return False
    fits = FORMS[word]
    return fits(thing)


def need_entry(entry):
    """The entry; BadEntry of what is none."""
    if not is_entry(entry):
        raise BadEntry("this is no entry")
    return entry


def may_stand(number, entry):
    """Whether a book may have this under this number."""
    if not is_number(number) or not is_entry(entry):
        return False
    return entry[0] != "undo" or entry[1] < number


def is_book(thing):
    """Whether it is a book."""
    if type(thing) is not dict or len(thing) > MOST:
        return False
    return all([may_stand(number, entry) for number, entry in thing.items()])


def need_book(book):
    """A new dict with the same; BadBook of what is no book."""
    if not is_book(book):
        raise BadBook("this is no book")
    return dict(book)
