"""What is known of a name behind a number, and what became otherwise."""

from saidthen.force import counting


def standing(book, n):
    """The entries about names that count behind n, the one with the greatest number first."""
    entries = [book[number] for number in counting(book, n)]
    return [entry for entry in entries[::-1] if entry[0] != "undo"]


def worth_by(entries, name, day):
    """What the name has on the day by these entries, the one with the greatest number first."""
    sought = name
    for entry in entries:
        if entry[1] != sought or not entry[2] <= day <= entry[3]:
            continue
        if entry[0] == "tell":
            return entry[4]
        if entry[0] == "clear":
            return None
        # A like goes by lesser numbers alone, and these are the entries still to come.
        sought = entry[4]
    return None


def even_stretches(book, low, high):
    """The days from low to high as tuples (first, last), such that no entry begins or ends inside of one."""
    # So one day of each tells of all its days, and not every single day has to be asked for.
    firsts = {low: True}
    for entry in book.values():
        if entry[0] == "undo":
            continue
        for day in (entry[2], entry[3] + 1):
            if low < day <= high:
                firsts[day] = True
    rising = sorted(firsts)
    lasts = [day - 1 for day in rising[1:]] + [high]
    return list(zip(rising, lasts))


def joined(pieces):
    """Tuples (first, last, what) that lie side by side, those neighbours made one that have the same."""
    runs = []
    for first, last, what in pieces:
        if runs and runs[-1][2] == what:
            runs[-1] = (runs[-1][0], last, what)
        else:
            runs.append((first, last, what))
    return runs


def worth_of(book, n, name, day):
    """What the name has on the day behind n: a worth or None."""
    return worth_by(standing(book, n), name, day)


def runs_of(book, n, name, low, high):
    """The runs of the name from low to high behind n: a list of tuples (first, last, worth)."""
    entries = standing(book, n)
    pieces = []
    for first, last in even_stretches(book, low, high):
        pieces.append((first, last, worth_by(entries, name, first)))
    return [run for run in joined(pieces) if run[2] is not None]


def came_about(book, name, day):
    """How the worth of the name on the day came about: a list of tuples (number, worth or None)."""
    told = [(0, None)]
    for number in sorted(book):
        worth = worth_of(book, number, name, day)
        if worth != told[-1][1]:
            told.append((number, worth))
    return told


def became_of(book, one, other, name, low, high):
    """What became otherwise from one number to the other one: a list of tuples (first, last, before, after)."""
    elder = standing(book, one)
    later = standing(book, other)
    pieces = []
    for first, last in even_stretches(book, low, high):
        both = (worth_by(elder, name, first), worth_by(later, name, first))
        pieces.append((first, last, both))
    return [(first, last, before, after) for first, last, (before, after) in joined(pieces) if before != after]
