import unittest

from shownrun.bags import Bag
from tests.values import no_lists, no_numbers


class BagTests(unittest.TestCase):
    def test_times_listed_and_length(self):
        bag = Bag((3, 1), (2, 5), (3, 1), (0, 9), (3, 1))
        self.assertEqual([bag.times(item) for item in ((3, 1), (2, 5), (1, 3))], [3, 1, 0])
        self.assertEqual(bag.listed(), [(0, 9), (2, 5), (3, 1), (3, 1), (3, 1)])
        self.assertEqual(len(bag), 5)
        self.assertEqual(repr(bag), "Bag(5 items)")
        self.assertEqual((len(Bag()), Bag().listed(), repr(Bag((1,)))), (0, [], "Bag(1 items)"))

    def test_the_list_is_new(self):
        bag = Bag((1, 2), (1, 1))
        bag.listed().clear()
        self.assertEqual(bag.listed(), [(1, 1), (1, 2)])

    def test_in(self):
        bag = Bag((3, 1), (2, 5))
        self.assertIs((3, 1) in bag, True)
        self.assertIs((1, 3) in bag, False)
        self.assertIs((3,) in bag, False)
        self.assertIs((3, 1) in Bag(), False)

    def test_lists_as_items(self):
        items = [[3, 1], [2, 5]]
        bag = Bag(*items)
        items[0][0] = 9
        self.assertEqual(bag, Bag((2, 5), (3, 1)))
        self.assertEqual((bag.times([3, 1]), [2, 5] in bag, [9, 1] in bag), (1, True, False))
        self.assertEqual(bag.listed(), [(2, 5), (3, 1)])

    def test_merged(self):
        bag = Bag((3, 1, 7), (250, 5, 0))
        self.assertEqual(bag.merged(2, p=257), Bag((5, 7), (3, 0)))
        self.assertEqual(bag.merged(worth=-1, p=257), Bag((2, 7), (245, 0)))
        self.assertEqual(bag.merged(2, p=257).merged(256, p=257), Bag((255,), (3,)))
        self.assertEqual(len(Bag((1, 2), (1, 2)).merged(3, p=257)), 2)
        self.assertEqual(Bag().merged(2, p=5), Bag())

    def test_product(self):
        self.assertEqual(Bag((3,), (5,), (5,)).product(10, p=257), 175)
        self.assertEqual(Bag((3,), (5,)).product(worth=2, p=257), 3)
        self.assertEqual(Bag((3,), (5,)).product(260, p=257), 0)
        self.assertEqual(Bag((3,)).product(-1, p=7), 3)
        self.assertEqual(Bag().product(4, p=7), 1)

    def test_sum(self):
        one, other = Bag((1,), (2,)), Bag((2,), (0,))
        self.assertEqual((one + other).listed(), [(0,), (1,), (2,), (2,)])
        self.assertEqual((one.listed(), other.listed()), ([(1,), (2,)], [(0,), (2,)]))
        self.assertEqual(one + Bag(), one)

    def test_equal(self):
        self.assertTrue(Bag((1, 2), (3, 4)) == Bag((3, 4), (1, 2)))
        self.assertFalse(Bag((1, 2), (3, 4)) != Bag((3, 4), (1, 2)))
        for other in (Bag((1, 2)), Bag((1, 2), (3, 4), (3, 4)), Bag((1, 2), (4, 3)), Bag()):
            self.assertFalse(Bag((1, 2), (3, 4)) == other)
        for value in no_lists() + no_numbers() + [[(1, 2)]]:
            self.assertIs(Bag((1, 2)) == value, False)
            self.assertIs(Bag() == value, False)


if __name__ == "__main__":
    unittest.main()
