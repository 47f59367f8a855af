import itertools
import unittest

from shownrun.errors import BadShape
from shownrun.seals import Clash, Opening, Tree, clash, opens
from tests.values import Thing, no_lists, no_numbers, numbers


def good(text):
    """A digest of which no clash is known to the tests."""
    total = 7
    for letter in text:
        total = (total * 1000003 + ord(letter)) % (2 ** 89 - 1)
    return "n{:x}".format(total)


def itself(text):
    return text


def constant(text):
    return "same"


def short(text):
    """A digest that clashes often."""
    return str(sum(ord(letter) for letter in text) % 3)


DIGESTS = (good, itself, constant, short)


def told_node(leaves, digest):
    """The node above leaves, by the words of the document."""
    if len(leaves) == 1:
        return digest("leaf " + leaves[0])
    left = told_node(leaves[:len(leaves) // 2], digest)
    right = told_node(leaves[len(leaves) // 2:], digest)
    return digest("node " + str(len(left)) + " " + left + " " + right)


def told_path(leaves, at, digest):
    if len(leaves) == 1:
        return ()
    middle = len(leaves) // 2
    if at < middle:
        return told_path(leaves[:middle], at, digest) + (told_node(leaves[middle:], digest),)
    return told_path(leaves[middle:], at - middle, digest) + (told_node(leaves[:middle], digest),)


def told_strings(opening, digest):
    """The strings that are digested on the way of an opening, from the leaf on."""
    made, at = ["leaf " + opening.leaf], opening.at
    for other in opening.path:
        node = digest(made[-1])
        left, right = (node, other) if at % 2 == 0 else (other, node)
        made.append("node " + str(len(left)) + " " + left + " " + right)
        at //= 2
    return made


def leaves_of(count, seed=0):
    return [" ".join(str(n) for n in numbers(seed + k, 1 + k % 3, 0, 99)) for k in range(count)]


class OpeningTests(unittest.TestCase):
    def test_attributes(self):
        opening = Opening(3, "leaf", ("a", "b"))
        self.assertEqual((opening.at, opening.leaf, opening.path), (3, "leaf", ("a", "b")))
        opening = Opening(path=["a"], at=0, leaf="")
        self.assertEqual((opening.at, opening.leaf, opening.path), (0, "", ("a",)))

    def test_lists_become_tuples(self):
        deep = [1, [2, ("x", [None, [True]])], ()]
        told = (1, (2, ("x", (None, (True,)))), ())
        for at in range(3):
            values = [7, "leaf", ()]
            values[at] = deep
            opening = Opening(*values)
            told_values = (7, "leaf", ())
            told_values = told_values[:at] + (told,) + told_values[at + 1:]
            self.assertEqual((opening.at, opening.leaf, opening.path), told_values)
        deep[1].append(5)
        self.assertEqual(opening.path, told)
        self.assertEqual(Opening([], [[]], [[[]]]).path, (((),),))

    def test_any_values(self):
        for value in no_lists() + no_numbers():
            opening = Opening(value, value, value)
            if not isinstance(value, list) and not isinstance(value, tuple):
                self.assertIs(opening.at, value)
                self.assertIs(opening.leaf, value)
                self.assertIs(opening.path, value)

    def test_equal(self):
        opening = Opening(3, "leaf", ["a", "b"])
        self.assertTrue(opening == Opening(3, "leaf", ("a", "b")))
        self.assertFalse(opening != Opening(3, "leaf", ("a", "b")))
        for other in (Opening(2, "leaf", ("a", "b")), Opening(3, "leaf ", ("a", "b")), Opening(3, "leaf", ("b", "a")),
                      Opening(3, "leaf", ("a",)), Opening(3, "leaf", "ab"), (3, "leaf", ("a", "b")), None, 3):
            self.assertIs(opening == other, False)
            self.assertIs(opening != other, True)
        for value in no_lists() + no_numbers():
            self.assertIs(opening == value, False)
            self.assertIs(Opening(value, 1, 2) == Opening(value, 1, 2), True)


class ClashTests(unittest.TestCase):
    def test_attributes_and_equal(self):
        found = Clash("a", "b")
        self.assertEqual((found.one, found.other), ("a", "b"))
        self.assertTrue(found == Clash(other="b", one="a"))
        for other in (Clash("b", "a"), Clash("a", "c"), Clash("c", "b"), ("a", "b"), Opening("a", "b", ())):
            self.assertIs(found == other, False)
        for value in no_lists() + no_numbers():
            self.assertIs(found == value, False)


class TreeTests(unittest.TestCase):
    def test_the_example_of_a_node(self):
        asked = []

        def digest(text):
            asked.append(text)
            return {"leaf x": "ab", "leaf y": "c"}.get(text, "top")

        tree = Tree(["x", "y"], digest)
        self.assertEqual((tree.root, tree.size), ("top", 2))
        self.assertEqual(sorted(asked), ["leaf x", "leaf y", "node 2 ab c"])
        self.assertEqual(Tree(["x", "y"], itself).root, "node 6 leaf x leaf y")
        self.assertEqual(Tree([""], itself).root, "leaf ")
        self.assertEqual(Tree(["", ""], itself).root, "node 5 leaf  leaf ")

    def test_trees_of_all_sizes(self):
        for power in range(12):
            count = 2 ** power
            for leaves in (leaves_of(count), [""] * count, ["7"] * count):
                for digest in DIGESTS:
                    tree = Tree(leaves, digest)
                    self.assertEqual(tree.root, told_node(leaves, digest))
                    self.assertEqual(tree.size, count)
                    for at in sorted({0, 1 % count, count // 2, count // 3, count - 1}):
                        opening = tree.opening(at)
                        told = Opening(at, leaves[at], told_path(leaves, at, digest))
                        self.assertIsInstance(opening, Opening)
                        self.assertEqual(opening, told)
                        self.assertEqual(len(opening.path), power)
                        self.assertIs(opens(tree.root, opening, count, digest), True)

    def test_each_leaf(self):
        for count in (1, 2, 4, 8, 16, 64):
            leaves = leaves_of(count, 5)
            tree = Tree(tuple(leaves), good)
            for at, leaf in enumerate(leaves):
                opening = tree.opening(at=at)
                self.assertEqual((opening.at, opening.leaf), (at, leaf))
                self.assertIs(opens(root=tree.root, opening=opening, size=count, digest=good), True)
                self.assertEqual(opening, tree.opening(at))

    def test_leaves_of_all_characters(self):
        leaves = ["a b", "leaf ", "node 1 a b", "\n", "~ !", "", " ", "0"]
        tree = Tree(leaves, itself)
        self.assertEqual(tree.root, told_node(leaves, itself))
        self.assertEqual([tree.opening(at).leaf for at in range(8)], leaves)

    def test_wrong_numbers_of_leaves(self):
        for count in (0, 3, 5, 6, 7, 12, 2047, 2049, 4095, 4096):
            for leaves in ([""] * count, ("x",) * count):
                with self.assertRaises(BadShape) as held:
                    Tree(leaves, good)
                self.assertEqual((held.exception.what, held.exception.count), ("leaves", count))
        for value in no_lists():
            with self.assertRaises(BadShape) as held:
                Tree(value, good)
            self.assertEqual(held.exception.what, "leaves")
            self.assertIsNone(held.exception.count)

    def test_wrong_indices(self):
        for count in (1, 2, 16):
            tree = Tree(leaves_of(count), good)
            for at in no_numbers() + [-1, -count, count, 9999999999, True, False, "0"]:
                with self.assertRaises(BadShape) as held:
                    tree.opening(at)
                self.assertEqual(held.exception.what, "at")
                self.assertIs(held.exception.count, at)

    def test_the_list_may_be_changed_behind(self):
        leaves = ["a", "b"]
        tree = Tree(leaves=leaves, digest=good)
        root = tree.root
        leaves[0] = "c"
        leaves.append("d")
        self.assertEqual((tree.root, tree.size, tree.opening(0).leaf), (root, 2, "a"))


class OpensTests(unittest.TestCase):
    def setUp(self):
        self.leaves = leaves_of(8, 3)
        self.tree = Tree(self.leaves, good)

    def is_open(self, opening, root=None, size=8):
        return opens(self.tree.root if root is None else root, opening, size, good)

    def test_altered_openings(self):
        for at in range(8):
            right = self.tree.opening(at)
            self.assertIs(self.is_open(right), True)
            self.assertIs(self.is_open(Opening(at, right.leaf, list(right.path))), True)
            for other in range(-8, 16):
                self.assertIs(self.is_open(Opening(other, right.leaf, right.path)), other == at)
            for leaf in ("", right.leaf + " ", "leaf " + right.leaf, self.leaves[at - 1]):
                self.assertIs(self.is_open(Opening(at, leaf, right.path)), False)
            for path in ((), right.path[:2], right.path[1:], right.path + ("",), right.path + right.path[:1],
                         right.path[::-1], ("",) + right.path[1:], right.path[:2] + ("n0",)):
                self.assertIs(self.is_open(Opening(at, right.leaf, path)), False)
            self.assertIs(self.is_open(right, root=self.tree.root + "0"), False)
            self.assertIs(self.is_open(right, root=""), False)
            for size in (1, 2, 4, 16, 2048):
                self.assertIs(self.is_open(right, size=size), False)

    def test_attributes_of_any_kind(self):
        right = self.tree.opening(1)
        for value in no_lists() + no_numbers() + [[right.at], (right.leaf,), Thing()]:
            if not (isinstance(value, int) and value == 1 and value is not True):
                self.assertIs(self.is_open(Opening(value, right.leaf, right.path)), False)
            self.assertIs(self.is_open(Opening(1, value, right.path)), False)
            self.assertIs(self.is_open(Opening(1, right.leaf, value)), False)
            for at in range(3):
                path = list(right.path)
                path[at] = value
                self.assertIs(self.is_open(Opening(1, right.leaf, path)), False)

    def test_a_string_is_no_path(self):
        leaves = ["a", "b", "c", "d"]
        tree = Tree(leaves, short)
        opening = tree.opening(0)
        self.assertEqual([len(node) for node in opening.path], [1, 1])
        self.assertIs(opens(tree.root, opening, 4, short), True)
        self.assertIs(opens(tree.root, Opening(0, "a", "".join(opening.path)), 4, short), False)

    def test_true_and_false_are_no_indices(self):
        for leaves in (["a", "b"], ["a"]):
            for digest in DIGESTS:
                tree = Tree(leaves, digest)
                self.assertIs(opens(tree.root, Opening(False, "a", tree.opening(0).path), len(leaves), digest), False)
                self.assertIs(opens(tree.root, Opening(True, "b", tree.opening(0).path), len(leaves), digest), False)

    def test_no_opening(self):
        for value in no_lists() + no_numbers() + [Clash("a", "b"), self.tree, (0, "a", ()), self.leaves[0]]:
            self.assertIs(self.is_open(value), False)
            self.assertIs(opens("same", value, 1, constant), False)

    def test_a_constant_digest_opens_all(self):
        self.assertIs(opens("same", Opening(3, "whatever", ("x", "y")), 4, constant), True)
        self.assertIs(opens("same", Opening(4, "whatever", ("x", "y")), 4, constant), False)
        self.assertIs(opens("other", Opening(3, "whatever", ("x", "y")), 4, constant), False)


class FoundClashTests(unittest.TestCase):
    def told_clash(self, root, one, other, size, digest):
        if not (opens(root, one, size, digest) and opens(root, other, size, digest)):
            return None
        if one.at != other.at or one.leaf == other.leaf:
            return None
        for mine, theirs in reversed(list(zip(told_strings(one, digest), told_strings(other, digest)))):
            if mine != theirs:
                return Clash(mine, theirs)

    def check(self, root, one, other, size, digest):
        told = self.told_clash(root, one, other, size, digest)
        found = clash(root, one, other, size, digest)
        self.assertEqual(found, told)
        if found is None:
            self.assertIsNone(clash(root, other, one, size, digest))
        else:
            self.assertNotEqual(found.one, found.other)
            self.assertEqual(digest(found.one), digest(found.other))
            self.assertEqual(clash(root, other, one, size, digest), Clash(found.other, found.one))
        return found

    def test_all_short_openings(self):
        nodes = ("0", "1", "2")
        for size in (1, 2, 4):
            paths = list(itertools.product(nodes, repeat=size.bit_length() - 1))
            some = [Opening(at, leaf, path) for at in range(size) for leaf in ("", "a", "b", "0") for path in paths]
            found = 0
            for one, other in itertools.product(some, some[::size]):
                for root in nodes:
                    found += self.check(root, one, other, size, short) is not None
            self.assertGreater(found, 0)

    def test_a_constant_digest(self):
        one = Opening(1, "a", ("x", "y"))
        for other, told in ((Opening(1, "b", ("x", "y")), Clash("leaf a", "leaf b")),
                            (Opening(1, "b", ("z", "y")), Clash("node 1 x same", "node 1 z same")),
                            (Opening(1, "b", ("z", "w")), Clash("node 4 same y", "node 4 same w")),
                            (Opening(1, "b", ("x", "w")), Clash("node 4 same y", "node 4 same w")),
                            (Opening(1, "a", ("x", "w")), None), (Opening(0, "b", ("x", "y")), None),
                            (Opening(1, "a", ("x", "y")), None)):
            self.assertEqual(clash("same", one, other, 4, constant), told)
            self.check("same", one, other, 4, constant)
        self.assertEqual(clash(root="same", one=one, other=Opening(1, "b", ("x", "y")), size=4, digest=constant),
                         Clash("leaf a", "leaf b"))
        self.assertIsNone(clash("other", one, Opening(1, "b", ("x", "y")), 4, constant))
        self.assertIsNone(clash("same", one, Opening(1, "b", ("x", "y")), 8, constant))
        self.assertEqual(clash("same", Opening(0, "", ()), Opening(0, " ", ()), 1, constant), Clash("leaf ", "leaf  "))

    def test_without_a_clash(self):
        tree = Tree(leaves_of(8), good)
        for at in range(8):
            for other in range(8):
                self.assertIsNone(clash(tree.root, tree.opening(at), tree.opening(other), 8, good))
            wrong = Opening(at, "wrong", tree.opening(at).path)
            self.assertIsNone(clash(tree.root, tree.opening(at), wrong, 8, good))
            self.assertIsNone(clash(tree.root, wrong, tree.opening(at), 8, good))

    def test_values_that_are_no_openings(self):
        right = Opening(0, "a", ("x",))
        for value in no_lists() + no_numbers():
            self.assertIsNone(clash("same", right, value, 2, constant))
            self.assertIsNone(clash("same", value, right, 2, constant))
            self.assertIsNone(clash("same", right, Opening(0, value, ("x",)), 2, constant)
                              if not isinstance(value, str) else None)
            self.assertIsNone(clash("same", right, Opening(value, "b", ("x",)), 2, constant)
                              if value != 0 or value is False else None)


if __name__ == "__main__":
    unittest.main()
