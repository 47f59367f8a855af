"""Sealed talks: the roots of trees over what was laid, and the openings that the looks need."""

from shownrun.draws import MIXING
from shownrun.errors import NotWaiting
from shownrun.folds import fold_at
from shownrun.mixed import Mixing
from shownrun.places import Places
from shownrun.primes import power
from shownrun.seals import Tree, opens
from shownrun.shapes import FIRST, LATER, are_counts, numeral_worth, with_tuples, worths_of

_STEP = 16


def _opened_leaves(look, places):
    """For each opening of a look its tree, its index, the size of the tree, and how many worths its leaf has."""
    made, size = [], places.size
    for tree, count in ((0, FIRST), (1, LATER)):
        for step in (0, _STEP, size // 2, size // 2 + _STEP):
            made.append((tree, (look + step) % size, size, count))
    for layer in range(1, places.layers + 1):
        half = size >> (layer + 1)
        for step in (0, half):
            made.append((layer + 1, (look + step) % (2 * half), 2 * half, 1))
    return made


def _leaves(words):
    """For each place the worths of all words there, as a string."""
    return [" ".join([str(worth) for worth in row]) for row in zip(*words)]


class Sealed:
    """What is shown of a talk whose looks are done."""

    def __init__(self, p, rows, counts, coins, number, looks, roots, openings):
        self.p = p
        self.rows = rows
        self.counts = tuple(counts)
        self.coins = worths_of(coins, p)
        self.number = number % p
        self.looks = tuple(looks)
        self.roots = tuple(roots)
        self.openings = with_tuples(openings)

    @staticmethod
    def of(talk, digest):
        """The Sealed of a talk."""
        if talk.verdict not in ("passed", "look"):
            raise NotWaiting("sealed")
        places = Places(talk.p, talk.rows)
        words, counts = talk.laid(0)
        laid = [words, talk.laid(1)] + [(talk.laid(1 + layer),) for layer in range(1, places.layers + 1)]
        trees = [Tree(_leaves(group), digest) for group in laid]
        openings = [[trees[tree].opening(at) for tree, at, _, _ in _opened_leaves(look, places)]
                    for look in talk.looked]
        return Sealed(talk.p, talk.rows, counts, talk.heard, talk.laid(places.layers + 2), talk.looked,
                      [tree.root for tree in trees], openings)

    def changed(self, look, at, opening):
        """A new Sealed with another opening of a look."""
        made = [list(openings) for openings in self.openings]
        made[look][at] = opening
        return Sealed(self.p, self.rows, self.counts, self.coins, self.number, self.looks, self.roots, made)

    def __eq__(self, other):
        return (isinstance(other, Sealed) and self.p == other.p and self.rows == other.rows
                and self.counts == other.counts and self.coins == other.coins and self.number == other.number
                and self.looks == other.looks and self.roots == other.roots and self.openings == other.openings)


def _leaf_worths(leaf, count, p):
    """The worths of a leaf, None unless it has just so many of them in the right form."""
    worths = [numeral_worth(word, p - 1) for word in leaf.split(" ")]
    return None if len(worths) != count or None in worths else worths


def _opened_worths(sealed, look, openings, digest):
    """The list of the worths of all leaves of a look, None if they are not opened rightly."""
    leaves = _opened_leaves(look, Places(sealed.p, sealed.rows))
    if len(openings) != len(leaves):
        return None
    made = []
    for (tree, at, size, count), opening in zip(leaves, openings):
        if not opens(sealed.roots[tree], opening, size, digest) or opening.at != at:
            return None
        made.append(_leaf_worths(opening.leaf, count, sealed.p))
    return None if None in made else made


def _mixed_pair(mixing, look, places, opened):
    """W at the place of a look and at the opposite one."""
    low, low_behind, high, high_behind = [first + later for first, later in zip(opened[:4], opened[4:8])]
    return (mixing.mixed_worth(look, low, low_behind),
            mixing.mixed_worth(look + places.size // 2, high, high_behind))


def _look_passes(sealed, mixing, look, opened):
    """Whether a look passes with the worths that were opened for it."""
    places = Places(sealed.p, sealed.rows)
    pairs = [_mixed_pair(mixing, look, places, opened)]
    pairs = pairs + [(low[0], high[0]) for low, high in zip(opened[8::2], opened[9::2])]
    wanted = [low for low, _ in pairs[1:]] + [sealed.number]
    folds = []
    for layer, (low, high) in enumerate(pairs):
        # A fold is the same if both worths are exchanged and the place is minus itself.
        place = power(places.place(look), 1 << layer, sealed.p)
        folds.append(fold_at(low, high, place, sealed.coins[MIXING + layer], sealed.p))
    return folds == wanted


def sealed_passes(program, sealed, digest):
    """Whether a Sealed passes for a program."""
    if not are_counts(sealed.counts, len(program), sealed.rows):
        return False
    layers = Places(sealed.p, sealed.rows).layers
    if len(sealed.roots) != layers + 2 or len(sealed.openings) != len(sealed.looks):
        return False
    mixing = Mixing(program, sealed.counts, sealed.coins, p=sealed.p, rows=sealed.rows)
    for look, openings in zip(sealed.looks, sealed.openings):
        opened = _opened_worths(sealed, look, openings, digest)
        if opened is None or not _look_passes(sealed, mixing, look, opened):
            return False
    return True
