"""The document's words taken one by one, day by day, and books by chance to compare the program with."""

import random

NAMES = ("tea", "cup", "pot")
DAYS = 12
LAST = 1000000


def counts(book, n, number):
    if number > n:
        return False
    return not any(
        entry[0] == "undo" and entry[1] == number and k > number and counts(book, n, k)
        for k, entry in book.items()
    )


def worth(book, n, name, day, below=None):
    fitting = [
        k
        for k, entry in book.items()
        if counts(book, n, k) and (below is None or k < below)
        and entry[0] != "undo" and entry[1] == name and entry[2] <= day <= entry[3]
    ]
    if not fitting:
        return None
    number = max(fitting)
    entry = book[number]
    if entry[0] == "tell":
        return entry[4]
    if entry[0] == "clear":
        return None
    return worth(book, n, entry[4], day, number)


def stretches(low, high, what):
    """The longest stretches (first, last, told) of days on which what(day) is one and the same."""
    found = []
    for day in range(low, high + 1):
        told = what(day)
        if found and found[-1][2] == told:
            found[-1] = (found[-1][0], day, told)
        else:
            found.append((day, day, told))
    return found


def runs(book, n, name, low, high):
    found = stretches(low, high, lambda day: worth(book, n, name, day))
    return [run for run in found if run[2] is not None]


def came(book, name, day):
    found = [(0, None)]
    ahead = 0
    for number in sorted(book):
        told = worth(book, number, name, day)
        if told != worth(book, ahead, name, day):
            found.append((number, told))
        ahead = number
    return found


def became(book, one, other, name, low, high):
    def pair(day):
        return worth(book, one, name, day), worth(book, other, name, day)

    found = stretches(low, high, pair)
    return [(first, last, *both) for first, last, both in found if both[0] != both[1]]


def edges(book):
    """Each first day of an entry, each day behind a last one, and the bounds: on all other days nothing begins."""
    days = {0, LAST}
    for entry in book.values():
        if entry[0] != "undo":
            days.update((entry[2], min(LAST, entry[3] + 1)))
    return sorted(days)


def names_of(book):
    return sorted({part for entry in book.values() for part in entry[1:] if isinstance(part, str)})


def all_known(book, n, names, days):
    """What each of the names has on each of the days behind n, for books whose length makes worth() too slow."""
    counted = [book[k] for k in sorted(book, reverse=True) if counts(book, n, k) and book[k][0] != "undo"]

    def told(name, day, ahead):
        for at, entry in enumerate(ahead):
            if entry[1] == name and entry[2] <= day <= entry[3]:
                if entry[0] == "like":
                    return told(entry[4], day, ahead[at + 1:])
                return entry[4] if entry[0] == "tell" else None
        return None

    return {(name, day): told(name, day, counted) for name in names for day in days}


def without(book, number):
    return {k: entry for k, entry in book.items() if k != number}


def some_entry(chance, number):
    low, high = sorted((chance.randint(0, DAYS), chance.randint(0, DAYS)))
    name = chance.choice(NAMES)
    word = chance.choice(("tell", "tell", "clear", "like", "like", "undo"))
    if word == "undo" and number > 1:
        return ("undo", chance.randint(max(1, number - 5), number - 1))
    if word == "clear":
        return ("clear", name, low, high)
    if word == "like":
        return ("like", name, low, high, chance.choice(NAMES))
    return ("tell", name, low, high, chance.randint(-1, 2))


def some_book(chance, most=14):
    """A book with gaps between its numbers, in any order of the dict."""
    numbers = chance.sample(range(1, 2 * most), chance.randint(0, most))
    return {number: some_entry(chance, number) for number in numbers}


def some_books(many, seed):
    chance = random.Random(seed)
    return [some_book(chance) for _ in range(many)]
