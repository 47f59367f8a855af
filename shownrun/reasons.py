"""Why a talk came to its verdict, and whether a reason holds for a talk."""

from shownrun.audit import Audit
from shownrun.draws import EARLY, MIXING, coin_names
from shownrun.errors import NotWaiting
from shownrun.near import parted
from shownrun.places import Places
from shownrun.polys import Poly
from shownrun.primes import is_number
from shownrun.rows import Rows, is_run
from shownrun.shapes import FIRST, is_whole, list_length, with_tuples

_ALL = 36


class Reason:
    """The base of all reasons, which alone holds for no talk."""

    @property
    def passed(self):
        return True

    @property
    def kind(self):
        return "reason"


class Refused(Reason):
    """The talk has another verdict than passed."""

    def __init__(self, verdict, at=0):
        self._verdict = verdict
        self.at = at

    @property
    def verdict(self):
        return self._verdict

    @property
    def passed(self):
        return False

    @property
    def kind(self):
        return "refused"

    def __eq__(self, other):
        return isinstance(other, Refused) and self._verdict == other.verdict and self.at == other.at


class Missed(Reason):
    """Many places are bad, and no look met one of them."""

    def __init__(self, bad):
        self._bad = with_tuples(bad)

    @property
    def bad(self):
        return self._bad

    @property
    def kind(self):
        return "missed"

    def __eq__(self, other):
        return isinstance(other, Missed) and self._bad == other.bad


class Unlucky(Reason):
    """A coin lies in its lot."""

    def __init__(self, name, worth):
        self.name = name
        self.worth = worth

    @property
    def kind(self):
        return "unlucky"

    def __eq__(self, other):
        return isinstance(other, Unlucky) and self.name == other.name and self.worth == other.worth


class Found(Reason):
    """The words are together, and their mended columns are a run."""

    def __init__(self, columns, lot):
        self.columns = with_tuples(columns)
        self.lot = with_tuples(lot)

    @property
    def kind(self):
        return "found"

    def mended_rows(self, p, rows):
        """The Rows of the worths of the first polynomials at the rows' places."""
        places = Places(p, rows)
        columns = [places.column(Poly(coefficients, p=p)) for coefficients in self.columns[:FIRST]]
        return Rows(columns, p=p)

    def __eq__(self, other):
        return isinstance(other, Found) and self.columns == other.columns and self.lot == other.lot


def _refusal(talk):
    """The Refused of a talk that does not pass."""
    if talk.verdict == "layer":
        # The first layer is laid behind f0, each other one behind a coin more.
        return Refused("layer", len(talk.heard) - MIXING)
    if talk.verdict == "look":
        return Refused("look", [talk.passes(look) for look in talk.looked].index(False))
    return Refused(talk.verdict)


def done_reason(talk):
    """The reason of a talk that is done."""
    if talk.verdict != "passed":
        return _refusal(talk)
    audit = Audit(talk)
    bad = audit.bad_places()
    if len(bad) > Places(talk.p, talk.rows).bad:
        return Missed(bad)
    names = coin_names(talk.rows)
    for name in names[EARLY:][::-1] + names[:EARLY]:
        if audit.in_lot(name):
            return Unlucky(name, talk.heard[names.index(name)])
    columns, lot = audit.together()
    return Found(columns, lot)


def reason(talk):
    """The reason of a talk."""
    if talk.waits != "done":
        raise NotWaiting("reason")
    return done_reason(talk)


def _are_numbers(value):
    return list_length(value) is not None and all([is_whole(item) for item in value])


def _missed_holds(talk, missed):
    if not _are_numbers(missed.bad) or len(missed.bad) <= Places(talk.p, talk.rows).bad:
        return False
    return missed.bad == Audit(talk).bad_places()


def _unlucky_holds(talk, unlucky):
    names = coin_names(talk.rows)
    if unlucky.name not in names or not is_whole(unlucky.worth):
        return False
    return unlucky.worth == talk.heard[names.index(unlucky.name)] and Audit(talk).in_lot(unlucky.name)


def _are_coefficients(value, places):
    """Whether any value is a tuple of the coefficients of a polynomial of a degree below K."""
    count = list_length(value)
    if count is None or count > places.degree:
        return False
    return all([is_number(worth, 0, places.p - 1) for worth in value]) and (count == 0 or value[-1] != 0)


def _parting_places(code, words, columns):
    """The ascending tuple of the places at which some word parts from its polynomial."""
    return tuple(sorted(set([at for word, coefficients in zip(words, columns)
                             for at in parted(code, word, Poly(coefficients, p=code.p))])))


def _found_holds(talk, found):
    places = Places(talk.p, talk.rows)
    if list_length(found.columns) != _ALL or not _are_numbers(found.lot) or len(found.lot) > places.bad:
        return False
    if not all([_are_coefficients(column, places) for column in found.columns]):
        return False
    if found.lot != _parting_places(places.layer(0), Audit(talk).column_words(), found.columns):
        return False
    return is_run(talk.program, found.mended_rows(talk.p, talk.rows))


def holds(talk, reason):
    """Whether any value is a reason that holds for a talk that is done."""
    if talk.waits != "done":
        raise NotWaiting("holds")
    if talk.verdict != "passed":
        return isinstance(reason, Refused) and is_whole(reason.at) and reason == _refusal(talk)
    if isinstance(reason, Missed):
        return _missed_holds(talk, reason)
    if isinstance(reason, Unlucky):
        return _unlucky_holds(talk, reason)
    return isinstance(reason, Found) and _found_holds(talk, reason)
