"""Seals: trees over leaves, the openings of their leaves, and clashes of a digest."""

from shownrun.errors import BadShape
from shownrun.primes import is_number
from shownrun.shapes import list_length, with_tuples

_SIZES = (1, 2, 4, 8, 16, 32, 64, 128, 256, 512, 1024, 2048)


class Opening:
    """An index, the leaf there, and the path from the leaf to the root."""

    def __init__(self, at, leaf, path):
        self.at = with_tuples(at)
        self.leaf = with_tuples(leaf)
        self.path = with_tuples(path)

    def __eq__(self, other):
        return (isinstance(other, Opening) and self.at == other.at and self.leaf == other.leaf
                and self.path == other.path)


class Clash:
    """Two unlike strings with equal digests."""

    def __init__(self, one, other):
        self.one = one
        self.other = other

    def __eq__(self, other):
        return isinstance(other, Clash) and self.one == other.one and self.other == other.other


def _leaf_string(leaf):
    """What is digested for a leaf."""
    return f"leaf {leaf}"


def _pair_string(left, right):
    """What is digested for a pair of neighbours."""
    return f"node {len(left)} {left} {right}"


def _levels(leaves, digest):
    """The levels of nodes over leaves: those of the leaves first, the root alone at the end."""
    levels = [[digest(_leaf_string(leaf)) for leaf in leaves]]
    while len(levels[-1]) > 1:
        nodes = levels[-1]
        levels.append([digest(_pair_string(left, right)) for left, right in zip(nodes[0::2], nodes[1::2])])
    return levels


class Tree:
    """A tree over leaves, with a digest."""

    def __init__(self, leaves, digest):
        count = list_length(leaves)
        if count not in _SIZES:
            raise BadShape("leaves", count)
        self._leaves = tuple(leaves)
        self._levels = _levels(self._leaves, digest)

    @property
    def root(self):
        return self._levels[-1][0]

    @property
    def size(self):
        return len(self._leaves)

    def opening(self, at):
        """The Opening of a leaf."""
        if not is_number(at, 0, len(self._leaves) - 1):
            raise BadShape("at", at)
        path, index = [], at
        for nodes in self._levels[:-1]:
            # The other node of a pair has the index with the last bit changed.
            path.append(nodes[index ^ 1])
            index = index // 2
        return Opening(at, self._leaves[at], path)


def _is_formed(opening, size):
    """Whether any value is an Opening of a right form for so many leaves."""
    if not isinstance(opening, Opening) or not is_number(opening.at, 0, size - 1):
        return False
    if not isinstance(opening.leaf, str) or not isinstance(opening.path, tuple):
        return False
    # A size of 2 ** k has a path of k nodes.
    return len(opening.path) == size.bit_length() - 1 and all([isinstance(node, str) for node in opening.path])


def _way(opening, digest):
    """The strings that are digested on the way of an opening, from the leaf to the root."""
    strings, index = [_leaf_string(opening.leaf)], opening.at
    for other in opening.path:
        node = digest(strings[-1])
        strings.append(_pair_string(node, other) if index % 2 == 0 else _pair_string(other, node))
        index = index // 2
    return strings


def opens(root, opening, size, digest):
    """Whether any value is an Opening that opens a root for so many leaves."""
    return _is_formed(opening, size) and digest(_way(opening, digest)[-1]) == root


def clash(root, one, other, size, digest):
    """The Clash of two openings of one index with unlike leaves, None unless they are such."""
    if not opens(root, one, size, digest) or not opens(root, other, size, digest):
        return None
    if one.at != other.at or one.leaf == other.leaf:
        return None
    ways = list(zip(_way(one, digest), _way(other, digest)))
    unlike = [(mine, theirs) for mine, theirs in ways if mine != theirs]
    # The strings nearest the root that are not alike have one digest, since all nearer ones are alike.
    return Clash(unlike[-1][0], unlike[-1][1])
