import itertools
import unittest

from shownrun.bags import Bag, in_merge_lot, in_product_lot, merge_lot, product_lot
from shownrun.errors import TooMany
from tests.values import SOME_PRIMES, no_lists, no_numbers, numbers


def told_merged(items, worth, p):
    return sorted(((u + worth * v) % p, *rest) for u, v, *rest in items)


def told_product(items, worth, p):
    total = 1
    for u, in items:
        total = total * (worth - u) % p
    return total


def told_lot(work, one, other, p):
    """The worths at which two lists of items come out alike, if they are not alike themselves."""
    if sorted(one) == sorted(other):
        return ()
    return tuple(m for m in range(p) if work(one, m, p) == work(other, m, p))


def some_items(seed, length, count, p):
    told = numbers(seed, length * count, 0, p - 1)
    return [tuple(told[k * length:(k + 1) * length]) for k in range(count)]


class BagTests(unittest.TestCase):
    def test_times_listed_and_length(self):
        bag = Bag((3, 1), (2, 5), (3, 1), (0, 9), (3, 1))
        self.assertEqual([bag.times(item) for item in ((3, 1), (2, 5), (1, 3))], [3, 1, 0])
        self.assertEqual(bag.listed(), [(0, 9), (2, 5), (3, 1), (3, 1), (3, 1)])
        self.assertEqual(len(bag), 5)
        self.assertEqual(repr(bag), "Bag(5 items)")
        self.assertEqual((len(Bag()), Bag().listed(), repr(Bag((1,)))), (0, [], "Bag(1 items)"))

    def test_the_list_is_new(self):
        bag = Bag((1, 2), (1, 1))
        bag.listed().clear()
        self.assertEqual(bag.listed(), [(1, 1), (1, 2)])

    def test_in(self):
        bag = Bag((3, 1), (2, 5))
        self.assertIs((3, 1) in bag, True)
        self.assertIs((1, 3) in bag, False)
        self.assertIs((3,) in bag, False)
        self.assertIs((3, 1) in Bag(), False)

    def test_lists_as_items(self):
        items = [[3, 1], [2, 5]]
        bag = Bag(*items)
        items[0][0] = 9
        self.assertEqual(bag, Bag((2, 5), (3, 1)))
        self.assertEqual((bag.times([3, 1]), [2, 5] in bag, [9, 1] in bag), (1, True, False))
        self.assertEqual(bag.listed(), [(2, 5), (3, 1)])

    def test_merged(self):
        bag = Bag((3, 1, 7), (250, 5, 0))
        self.assertEqual(bag.merged(2, p=257), Bag((5, 7), (3, 0)))
        self.assertEqual(bag.merged(worth=-1, p=257), Bag((2, 7), (245, 0)))
        self.assertEqual(bag.merged(2, p=257).merged(256, p=257), Bag((255,), (3,)))
        self.assertEqual(len(Bag((1, 2), (1, 2)).merged(3, p=257)), 2)
        self.assertEqual(Bag().merged(2, p=5), Bag())

    def test_product(self):
        self.assertEqual(Bag((3,), (5,), (5,)).product(10, p=257), 175)
        self.assertEqual(Bag((3,), (5,)).product(worth=2, p=257), 3)
        self.assertEqual(Bag((3,), (5,)).product(260, p=257), 0)
        self.assertEqual(Bag((3,)).product(-1, p=7), 3)
        self.assertEqual(Bag().product(4, p=7), 1)

    def test_sum(self):
        one, other = Bag((1,), (2,)), Bag((2,), (0,))
        self.assertEqual((one + other).listed(), [(0,), (1,), (2,), (2,)])
        self.assertEqual((one.listed(), other.listed()), ([(1,), (2,)], [(0,), (2,)]))
        self.assertEqual(one + Bag(), one)

    def test_equal(self):
        self.assertTrue(Bag((1, 2), (3, 4)) == Bag((3, 4), (1, 2)))
        self.assertFalse(Bag((1, 2), (3, 4)) != Bag((3, 4), (1, 2)))
        for other in (Bag((1, 2)), Bag((1, 2), (3, 4), (3, 4)), Bag((1, 2), (4, 3)), Bag()):
            self.assertFalse(Bag((1, 2), (3, 4)) == other)
        for value in no_lists() + no_numbers() + [[(1, 2)]]:
            self.assertIs(Bag((1, 2)) == value, False)
            self.assertIs(Bag() == value, False)

    def test_of_all_lengths_and_primes(self):
        for p in SOME_PRIMES:
            for length in range(1, 15):
                items = some_items(length, length, 5, p)
                bag = Bag(*items, items[0])
                self.assertEqual(bag.listed(), sorted(items + items[:1]))
                self.assertEqual(bag.times(items[0]), 1 + items.count(items[0]))
                self.assertEqual(bag, Bag(items[0], *items[::-1]))
                self.assertEqual((len(bag), items[3] in bag, bag.times((p,) * length)), (6, True, 0))
                worths = numbers(length, length)
                for worth in worths[1:]:
                    told = told_merged(items, worth, p)
                    bag = Bag(*items).merged(worth, p=p)
                    self.assertEqual(bag.listed(), told)
                    items = [tuple(item) for item in told]
                for worth in worths:
                    self.assertEqual(bag.product(worth, p=p), told_product(bag.listed(), worth, p))


class LotTests(unittest.TestCase):
    def test_every_worth_of_small_primes(self):
        for p in (2, 3, 5, 7, 13):
            for length, counts in itertools.product((2, 3, 14), ((0, 1), (1, 1), (2, 2), (3, 3), (4, 4), (2, 3))):
                for seed in range(6):
                    one = some_items(seed, length, counts[0], p)
                    other = some_items(seed + 50, length, counts[1], p)
                    self.check(merge_lot, in_merge_lot, told_merged, one, other, p)
                    shorter = [[item[:1] for item in items] for items in (one, other)]
                    self.check(product_lot, in_product_lot, told_product, *shorter, p)

    def check(self, lot_of, is_in, work, one, other, p):
        told, bags = told_lot(work, one, other, p), (Bag(*one), Bag(*other))
        lot = lot_of(*bags, p=p)
        self.assertEqual(lot, told)
        self.assertIs(type(lot), tuple)
        self.assertEqual(lot_of(bags[1], bags[0], p=p), told)
        if len(one) == len(other):
            self.assertLessEqual(len(lot), len(one))
        for worth in range(p):
            for number in (worth, worth - p, worth + 3 * p):
                self.assertIs(is_in(*bags, number, p=p), worth in told)

    def test_alike_bags(self):
        for items in ([], [(1, 2)], [(1, 2), (1, 2)], [(3, 0), (1, 2), (4, 4)]):
            one, other = Bag(*items), Bag(*items[::-1])
            self.assertEqual(merge_lot(one, other, p=5), ())
            self.assertEqual(product_lot(Bag((2,), (3,)), Bag((3,), (2,)), p=5), ())
            self.assertIs(in_merge_lot(one, other, 1, p=5), False)
            self.assertIs(in_product_lot(Bag((2,)), Bag((2,)), 1, p=5), False)
        self.assertEqual((product_lot(Bag(), Bag(), p=2), merge_lot(Bag(), Bag(), p=2)), ((), ()))

    def test_lots_with_several_members(self):
        self.assertEqual(merge_lot(Bag((0, 3)), Bag((1, 2)), p=13), (1,))
        # Merged by 0 the items pair up in this order, merged by 4 in the other one.
        self.assertEqual(merge_lot(Bag((0, 3), (4, 5)), Bag((0, 6), (4, 2)), p=13), (0, 4))
        self.assertEqual(merge_lot(Bag((0, 3, 9), (4, 5, 9)), Bag((0, 6, 9), (4, 2, 9)), p=13), (0, 4))
        self.assertEqual(merge_lot(Bag((0, 3, 9), (4, 5, 8)), Bag((0, 6, 9), (4, 2, 8)), p=13), (0,))
        self.assertEqual(product_lot(Bag((0,), (3,)), Bag((1,), (2,)), p=13), ())
        self.assertEqual(product_lot(Bag((1,), (2,), (3,)), Bag((0,), (0,), (0,)), p=13), (6, 11))
        self.assertEqual(product_lot(Bag(), Bag((1,)), p=5), (2,))
        self.assertEqual(product_lot(Bag((1,), (2,)), Bag((1,)), p=7), (1, 3))

    def test_unlike_sizes(self):
        for p in (5, 13, 797):
            self.assertEqual(merge_lot(Bag((1, 2)), Bag(), p=p), ())
            self.assertEqual(merge_lot(Bag((1, 2)), Bag((1, 2), (1, 2)), p=p), ())
            self.assertEqual(merge_lot(other=Bag((1, 2)), one=Bag((1, 2), (3, 1)), p=p), ())

    def test_great_primes(self):
        for p in (809, 2013265921, 9999999967):
            one, other = Bag((0, 3), (4, 5)), Bag((0, 6), (4, 2))
            for worth in (0, p, -p, 4, 4 - p, 4 + 2 * p, 1, 5, -4, 9999999999):
                self.assertIs(in_merge_lot(one, other, worth, p=p), worth % p in (0, 4))
            self.assertIs(in_merge_lot(one=Bag((1, 2)), other=Bag((2, 1)), worth=1 - p, p=p), True)
            self.assertIs(in_merge_lot(Bag((1, 2)), Bag((2, 1)), 2, p=p), False)
            one, other = Bag((1,), (2,)), Bag((3,), (p - 1,))
            for worth in (5, 5 - p, 5 + p, 4, -5, 9999999999):
                told = (worth - 1) * (worth - 2) % p == (worth - 3) * (worth + 1) % p
                self.assertIs(in_product_lot(one, other, worth, p=p), told)
            self.assertIs(in_product_lot(one=one, other=other, worth=5, p=p), True)

    def test_too_many_worths(self):
        for p in (809, 2013265921, 9999999967):
            for lot_of, bags in ((merge_lot, (Bag((1, 2)), Bag((2, 1)))), (product_lot, (Bag((1,)), Bag((2,)))),
                                 (merge_lot, (Bag(), Bag())), (product_lot, (Bag(), Bag()))):
                with self.assertRaises(TooMany) as held:
                    lot_of(*bags, p=p)
                self.assertEqual((held.exception.what, held.exception.most), ("worths", 800))
        self.assertEqual(merge_lot(Bag((1, 2)), Bag((2, 1)), p=797), (1,))
        self.assertEqual(product_lot(Bag((1,), (2,)), Bag((3,), (796,)), p=797), (5,))

    def test_lots_change_nothing(self):
        one, other = Bag((1, 2), (3, 4)), Bag((2, 1), (3, 4))
        merge_lot(one, other, p=7)
        in_merge_lot(one, other, 1, p=7)
        self.assertEqual((one.listed(), other.listed()), ([(1, 2), (3, 4)], [(2, 1), (3, 4)]))


if __name__ == "__main__":
    unittest.main()
