"""A whole day: a text is read, walked, compiled and shown, and the talk is judged and explained."""

from shownrun.bound import talk_bound
from shownrun.draws import coin_names
from shownrun.errors import BadShape
from shownrun.notes import Notes
from shownrun.reasons import done_reason
from shownrun.scheme import compiled
from shownrun.shapes import list_length
from shownrun.talk import held
from shownrun.tellers import house
from shownrun.walking import walk


class Day:
    """What a text told, its program, the talk about it, the reason of the talk, and the bound."""

    def __init__(self, outputs, program, talk, reason, bound):
        self.outputs = tuple(outputs)
        self.program = program
        self.talk = talk
        self.reason = reason
        self.bound = bound


def _first_coins(coins, rows):
    """The first coins of a list, as many as a talk needs."""
    count, needed = list_length(coins), len(coin_names(rows))
    if count is None or count < needed:
        raise BadShape("coins", count)
    return coins[:needed]


def day(text, secrets, coins, looks, *, p, rows=None):
    """The Day of a text with secrets, coins and looks."""
    notes = Notes.read(text)
    outputs = walk(notes, secrets, p=p).outputs
    program = compiled(notes, outputs)
    teller = house(program, secrets, p=p, rows=rows)
    # Coins that no talk hears may be left over, too many looks may not.
    talk = held(program, teller, _first_coins(coins, teller.rows), looks, p=p, rows=teller.rows)
    return Day(outputs, program, talk, done_reason(talk), talk_bound(talk))
