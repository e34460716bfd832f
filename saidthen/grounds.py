"""The entries that an answer hangs on."""

from saidthen.asking import runs_of
from saidthen.shorter import cut_down, short_behind, without


def hangs_on(book, n, name, low, high):
    """The numbers, rising, of entries that alone have the same runs, none of which could be left out."""
    # The shorter book has the same runs; and a keeper that was made shorter has no other entries to name.
    short = short_behind(book, n)
    runs = runs_of(short, n, name, low, high)

    def is_spare(rest, number):
        return runs_of(without(rest, number), n, name, low, high) == runs

    return sorted(cut_down(short, is_spare))
