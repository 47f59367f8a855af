"""Bags of tuples of worths, without order, and the lots of two bags."""

from shownrun.lots import check_counted


class Bag:
    """Items, each so many times; they are tuples of worths of one length."""

    def __init__(self, *items):
        # The ascending tuple stands for the bag: equal bags have equal tuples.
        self._members = tuple(sorted([tuple(item) for item in items]))

    def times(self, item):
        """How often an item is in the bag."""
        return self._members.count(tuple(item))

    def listed(self):
        """The ascending list of the items, each as often as it is in the bag."""
        return list(self._members)

    def merged(self, worth, *, p):
        """The bag with (u + worth * v, ..) in the place of each item (u, v, ..)."""
        made = [((item[0] + worth * item[1]) % p,) + item[2:] for item in self._members]
        return Bag(*made)

    def product(self, worth, *, p):
        """The product of worth - u over the items (u)."""
        total = 1
        for item in self._members:
            total = total * (worth - item[0]) % p
        return total

    def __add__(self, other):
        both = self.listed() + other.listed()
        return Bag(*both)

    def __contains__(self, item):
        return tuple(item) in self._members

    def __len__(self):
        return len(self._members)

    def __eq__(self, other):
        return isinstance(other, Bag) and self._members == other._members

    def __repr__(self):
        return f"Bag({len(self._members)} items)"


def in_merge_lot(one, other, worth, *, p):
    """Whether merging by a worth makes two bags alike that are not."""
    if one == other:
        return False
    return one.merged(worth, p=p) == other.merged(worth, p=p)


def merge_lot(one, other, *, p):
    """The ascending tuple of the worths in the merge lot of two bags."""
    check_counted(p)
    return tuple([worth for worth in range(p) if in_merge_lot(one, other, worth, p=p)])


def in_product_lot(one, other, worth, *, p):
    """Whether two bags that are not alike have equal products at a worth."""
    if one == other:
        return False
    return one.product(worth, p=p) == other.product(worth, p=p)


def product_lot(one, other, *, p):
    """The ascending tuple of the worths in the product lot of two bags."""
    check_counted(p)
    return tuple([worth for worth in range(p) if in_product_lot(one, other, worth, p=p)])
