"""Which entries of a book count."""


def counting(book, n):
    """The numbers of the entries that count behind n, rising."""
    undone = {}
    falling = []
    # From the greatest number down, all that could undo an entry is known before the entry is met.
    for number in sorted(book, reverse=True):
        if number > n or number in undone:
            continue
        entry = book[number]
        if entry[0] == "undo":
            undone[entry[1]] = True
        falling.append(number)
    return falling[::-1]
