"""The words of Rows: their columns, stretched."""

from shownrun.draws import Draws
from shownrun.equations import later
from shownrun.places import Places


def first_words(rows):
    """The words of the 29 first columns of Rows."""
    places = Places(rows.p, len(rows))
    return tuple([places.stretched(column) for column in rows.columns])


def later_words(rows, coins):
    """The words of the seven later columns of Rows, for the early coins."""
    places = Places(rows.p, len(rows))
    return tuple([places.stretched(column) for column in later(rows, Draws(coins, p=rows.p))])
