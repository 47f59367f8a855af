"""The auditor: what was laid in a talk, mended, and the lots of its coins."""

from shownrun.bags import Bag, in_merge_lot, in_product_lot, merge_lot, product_lot
from shownrun.draws import EARLY, MIXERS, MIXING, Draws, coin_names
from shownrun.equations import row_worths
from shownrun.errors import BadShape, NotWaiting, UnknownName
from shownrun.folds import fold_lot, good_places, in_fold_lot
from shownrun.lots import check_counted
from shownrun.near import in_mix_lot, mix_lot, together
from shownrun.places import Places
from shownrun.primes import is_number
from shownrun.remainders import last_number, mixer_lot, shares
from shownrun.rows import Rows
from shownrun.shapes import FIRST

_ALL = 36


class Audit:
    """What was laid and heard in a talk whose number is laid."""

    def __init__(self, talk):
        if not talk.layered:
            raise NotWaiting("audit")
        self._talk = talk.twin()
        self._places = Places(talk.p, talk.rows)
        self._heard = talk.heard
        self._names = coin_names(talk.rows)
        # What takes long is worked out when it is first asked for, and kept.
        self._layers = None
        self._good = None
        self._near = {}
        self._mended = {}
        self._all_near = None
        self._mixer = None

    def _check_layer(self, layer):
        if not is_number(layer, 0, self._places.layers + 1):
            raise BadShape("layer", layer)

    def _layer_words(self):
        """The list of w_0 to w_(k + 1)."""
        if self._layers is None:
            last = self._places.layers
            laid = [self._talk.laid(1 + layer) for layer in range(1, last + 1)]
            ends = (self._talk.laid(last + 2),) * (self._places.size >> (last + 1))
            self._layers = [self._talk.mixed().word()] + laid + [ends]
        return self._layers

    def word(self, layer):
        """The word of a layer: the mixed word, one that was laid, or the number everywhere."""
        self._check_layer(layer)
        return self._layer_words()[layer]

    def good(self, layer):
        """The ascending tuple of the good places of a layer."""
        self._check_layer(layer)
        if self._good is None:
            self._good = good_places(self._places.layer(0), self._layer_words(), self._heard[MIXING:])
        return self._good[layer]

    def bad_places(self):
        """The ascending tuple of the places of layer 0 that are not good."""
        found = set(self.good(0))
        return tuple([at for at in range(self._places.size) if at not in found])

    def quotients(self):
        """The word of C."""
        return self._talk.mixed().quotients()

    def column_words(self):
        """The words of the 36 columns."""
        return self._talk.laid(0)[0] + self._talk.laid(1)

    def _near_words(self, count):
        """The Polys and the lot of places of the first words, None if they are not together within b."""
        if count not in self._near:
            self._near[count] = together(self._places.layer(0), self.column_words()[:count], self._places.bad)
        return self._near[count]

    def together(self, count=_ALL):
        """The coefficients of the polynomials and the lot of places of the first words, None if there are none."""
        near = self._near_words(count)
        return None if near is None else (tuple([poly.coefficients for poly in near[0]]), near[1])

    def mended(self, count=_ALL):
        """The tuple of the first columns, mended, None if their words are not together."""
        if count not in self._mended:
            near = self._near_words(count)
            columns = None if near is None else tuple([self._places.column(poly) for poly in near[0]])
            self._mended[count] = columns
        return self._mended[count]

    def _check_name(self, name):
        if name not in self._names:
            raise UnknownName(name)

    def in_lot(self, name):
        """Whether a coin lies in its lot."""
        self._check_name(name)
        coin = self._heard[self._names.index(name)]
        if name[0] == "f":
            layer = int(name[1:])
            return in_fold_lot(self._places.layer(layer), self.word(layer), coin, self._places.near(layer + 1))
        if name[0] == "r":
            return self._in_weight_lot(int(name[1:]))
        if name[0] == "c":
            return coin in self._mixer_lot(int(name[1:]))
        bags = self._early_bags(name)
        if bags is None:
            return False
        one, other = bags
        if name in ("z", "w"):
            return in_product_lot(one, other, coin, p=self._talk.p)
        return in_merge_lot(one, other, coin, p=self._talk.p)

    def coin_lot(self, name):
        """The lot of a coin, an ascending tuple."""
        self._check_name(name)
        check_counted(self._talk.p)
        if name[0] == "f":
            layer = int(name[1:])
            return fold_lot(self._places.layer(layer), self.word(layer), self._places.near(layer + 1))
        if name[0] == "r":
            return mix_lot(self._places.layer(0), self.quotients(), self.column_words(), self._mix_coins(),
                           int(name[1:]), self._places.bad)
        if name[0] == "c":
            return self._mixer_lot(int(name[1:]))
        bags = self._early_bags(name)
        if bags is None:
            return ()
        one, other = bags
        if name in ("z", "w"):
            return product_lot(one, other, p=self._talk.p)
        return merge_lot(one, other, p=self._talk.p)

    def _mix_coins(self):
        """The coins r_1 to r_36."""
        return self._heard[MIXERS:MIXING]

    def _in_weight_lot(self, number):
        """Whether the coin r with a number lies in its mix lot."""
        # If all words are together, their mixes are together with the other ones, and all these lots are empty.
        if self._are_all_near():
            return False
        return in_mix_lot(self._places.layer(0), self.quotients(), self.column_words(), self._mix_coins(), number,
                          self._places.bad)

    def _are_all_near(self):
        """Whether the words of C and of all columns are together within b."""
        if self._all_near is None:
            words = (self.quotients(),) + self.column_words()
            self._all_near = together(self._places.layer(0), words, self._places.bad) is not None
        return self._all_near

    def _mixer_lot(self, number):
        """The lot of the coin c with a number, for any prime."""
        if self._mixer is None:
            self._mixer = self._last_mixer()
        return self._mixer[1] if number == self._mixer[0] else ()

    def _last_mixer(self):
        """The number of the last equation that fails on the mended columns, or 0, and the lot of its mixer."""
        columns = self.mended()
        if columns is None:
            return 0, ()
        program, p = self._talk.program, self._talk.p
        draws = Draws(self._heard[:EARLY], p=p)
        closing = program.closing(self._talk.laid(0)[1], draws)
        added = shares(row_worths(columns, draws, frame=program.frame, closing=closing), self._places)
        number = last_number(added)
        if number == 0:
            return 0, ()
        return number, mixer_lot(number, added, self._heard[EARLY:MIXERS], p)

    def _early_bags(self, name):
        """The two bags whose lot is that of an early coin, None if the first words are not together."""
        columns = self.mended(FIRST)
        if columns is None:
            return None
        rows, program, p = Rows(columns, p=self._talk.p), self._talk.program, self._talk.p
        if name in ("B", "z"):
            touches, ordered = rows.touch_pairs(), rows.sorted_touches()
            one, other = Bag(*touches), Bag(*ordered)
        else:
            one, other = rows.fields(), program.fields(self._talk.laid(0)[1], p=p)
        for coin in self._coins_ahead(name):
            one, other = one.merged(coin, p=p), other.merged(coin, p=p)
        return one, other

    def _coins_ahead(self, name):
        """The coins by which the bags of an early coin are merged."""
        at = self._names.index(name)
        # B and z have bags of touches; the coins k and w, which stand behind them, have bags of fields.
        return self._heard[2:at] if at > 1 else self._heard[:at]
