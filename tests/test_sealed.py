import hashlib
import unittest

from shownrun.errors import NotWaiting
from shownrun.lines import Line, Program
from shownrun.seals import Opening, Tree
from shownrun.sealed import Sealed, sealed_passes
from shownrun.talk import Talk, held
from shownrun.tellers import Changed, house, of_rows
from tests.samples import SAMPLES, SMALL, SMALL_ROWS, SMALL_WRONG, SQUARE, coins_of
from tests.talks import LAYERS, Laying, all_cases, some_coins
from tests.values import no_lists, no_numbers, numbers

CASES = all_cases()


def digest(text):
    return hashlib.sha256(text.encode()).hexdigest()


def short(text):
    return hashlib.sha256(text.encode()).hexdigest()[:len(text) % 7]


def constant(text):
    return "same"


def itself(text):
    return text


def told_trees(talk, some_digest):
    """The trees of [45], by its words."""
    groups = [talk.laid(0)[0], talk.laid(1)] + [[talk.laid(1 + i)] for i in range(1, LAYERS[talk.rows] + 1)]
    return [Tree([" ".join(str(word[at]) for word in group) for at in range(len(group[0]))], some_digest)
            for group in groups]


def told_indices(look, rows):
    """The tree and the index of each opening of a look."""
    size, made = 16 * rows, []
    for tree in (0, 1):
        made += [(tree, at % size) for at in (look, look + 16, look + size // 2, look + size // 2 + 16)]
    for i in range(1, LAYERS[rows] + 1):
        count = size // 2 ** i
        made += [(i + 1, look % count), (i + 1, (look + count // 2) % count)]
    return made


def parts_of(sealed):
    return {"p": sealed.p, "rows": sealed.rows, "counts": sealed.counts, "coins": sealed.coins, "number": sealed.number,
            "looks": sealed.looks, "roots": sealed.roots, "openings": sealed.openings}


def altered(sealed, **parts):
    return Sealed(**{**parts_of(sealed), **parts})


class OfTests(unittest.TestCase):
    def test_what_it_has(self):
        for case in CASES:
            looks = [0, 5, 40, 63, 5] + list(case.looks)
            talk = held(case.program, case.teller, case.coins, looks, p=case.p, rows=case.rows)
            sealed = Sealed.of(talk, digest)
            self.assertEqual((sealed.p, sealed.rows, sealed.counts), (case.p, case.rows, talk.laid(0)[1]))
            self.assertEqual((sealed.coins, sealed.looks), (tuple(talk.heard), tuple(talk.looked)))
            self.assertEqual(sealed.number, talk.laid(LAYERS[case.rows] + 2))
            trees = told_trees(talk, digest)
            self.assertEqual(sealed.roots, tuple(tree.root for tree in trees))
            told = tuple(tuple(trees[tree].opening(at) for tree, at in told_indices(look, case.rows)) for look in looks)
            self.assertEqual(sealed.openings, told)
            self.assertEqual(len(sealed.roots), LAYERS[case.rows] + 2)
            self.assertEqual([type(part) for part in parts_of(sealed).values()],
                             [int, int, tuple, tuple, int, tuple, tuple, tuple])
            self.assertTrue(all(type(items) is tuple for items in sealed.openings))
            self.assertEqual(Sealed.of(digest=digest, talk=talk), sealed)

    def test_it_passes_exactly_if_the_talk_does(self):
        seen = {True: 0, False: 0}
        for case in CASES:
            for look in (0, 3, 5, 20, 33, 62):
                talk = held(case.program, case.teller, case.coins, [look], p=case.p, rows=case.rows)
                for some_digest in (digest, short, constant):
                    passes = sealed_passes(case.program, Sealed.of(talk, some_digest), some_digest)
                    self.assertIs(passes, talk.verdict == "passed", (case.label, look))
                seen[passes] += 1
        self.assertTrue(min(seen.values()) > 10, seen)

    def test_all_looks(self):
        for label in ("few: two columns", "changes of a layer: 4", "f0 at a place"):
            case = [case for case in CASES if case.label == label][0]
            talk = held(case.program, case.teller, case.coins, list(range(60)), p=case.p, rows=case.rows)
            sealed = Sealed.of(talk, digest)
            told = [talk.passes(at) for at in range(60)]
            for at in range(60):
                one = altered(sealed, looks=[at], openings=[sealed.openings[at]])
                self.assertIs(sealed_passes(case.program, one, digest), told[at])
            good = [at for at in range(60) if told[at]]
            some = altered(sealed, looks=good, openings=[sealed.openings[at] for at in good])
            self.assertIs(sealed_passes(case.program, some, digest), True)

    def test_great_talks(self):
        for p, rows, looks in ((769, 16, 3), (12289, 64, 2), (2013265921, 16, 60)):
            teller = house(SQUARE, [3], p=p, rows=rows)
            coins, told = coins_of(rows, 3, p), numbers(rows, looks)
            sealed = Sealed.of(held(SQUARE, teller, coins, told, p=p, rows=rows), digest)
            self.assertIs(sealed_passes(SQUARE, sealed, digest), True)
            wrong = Changed(teller, (1, 6, told[0] % (16 * rows), 1))
            sealed = Sealed.of(held(SQUARE, wrong, coins, told, p=p, rows=rows), digest)
            self.assertIs(sealed_passes(sealed=sealed, program=SQUARE, digest=digest), False)

    def test_not_waiting(self):
        talk, step, coins = Talk(SMALL, p=257, rows=4, looks=2), 0, coins_of(4)
        teller = of_rows(SMALL, SMALL_ROWS)
        while talk.waits != "done":
            self.not_waiting(talk)
            if talk.waits == "coin":
                talk.coin(coins[len(talk.heard)])
            elif talk.waits == "look":
                talk.look(1)
            else:
                wrong = talk.twin()
                wrong.lay([None])
                self.not_waiting(wrong)
                talk.lay(teller(step, talk.heard))
                step += 1
        self.assertIsInstance(Sealed.of(talk, digest), Sealed)

    def not_waiting(self, talk):
        with self.assertRaises(NotWaiting) as caught:
            Sealed.of(talk, digest)
        self.assertEqual(caught.exception.what, "sealed")

    def test_no_looks(self):
        case = [case for case in CASES if case.label == "many: the number"][0]
        sealed = Sealed.of(case.talk, digest)
        self.assertEqual((sealed.looks, sealed.openings), ((), ()))
        self.assertIs(sealed_passes(SMALL, sealed, digest), True)


class AlteredTests(unittest.TestCase):
    def setUp(self):
        self.coins = some_coins(4, 3, 257)
        self.talk = held(SMALL, of_rows(SMALL, SMALL_ROWS), self.coins, [5, 40, 5], p=257, rows=4)
        self.sealed = Sealed.of(self.talk, digest)

    def passes(self, sealed, program=SMALL, some_digest=digest):
        made = sealed_passes(program, sealed, some_digest)
        self.assertIs(type(made), bool)
        return made

    def test_the_right_one(self):
        self.assertTrue(self.passes(self.sealed))
        self.assertTrue(self.passes(altered(self.sealed)))
        self.assertFalse(self.passes(self.sealed, some_digest=short))

    def test_counts(self):
        for counts in ((2, 0, 1, 1), (1, 1, 1, 2), (1, 1, 1), (1, 1, 1, 1, 0), (), (4,), (3, 1, 1, -1), (5, 0, 0, -1),
                       (True, 1, 1, 1), (4, 0, 0, 0)):
            self.assertFalse(self.passes(altered(self.sealed, counts=counts)), counts)
        # Without looks only the form is judged.
        for counts, told in (((4, 0, 0, 0), True), ((1, 1, 1, 2), False), ((5, -1, 0, 0), False), ((2, 2), False)):
            self.assertIs(self.passes(altered(self.sealed, counts=counts, looks=[], openings=[])), told)

    def test_programs(self):
        for program in (SMALL_WRONG, SQUARE, Program(SMALL.lines, 3), Program(SMALL.lines + (Line("ask"),), 2)):
            self.assertFalse(self.passes(self.sealed, program=program))
        self.assertTrue(self.passes(self.sealed, program=Program(SMALL.lines, 2)))

    def test_coins_and_number(self):
        for at in (0, 1, 4, 15, 21, 53, 54, 70, 89, 90, 91, 92):
            coins = list(self.coins)
            coins[at] += 1
            self.assertFalse(self.passes(altered(self.sealed, coins=coins)), at)
            coins[at] += 256
            self.assertTrue(self.passes(altered(self.sealed, coins=coins)), at)
        self.assertFalse(self.passes(altered(self.sealed, number=self.sealed.number + 1)))
        self.assertTrue(self.passes(altered(self.sealed, number=self.sealed.number - 257)))

    def test_looks(self):
        self.assertTrue(self.passes(altered(self.sealed, looks=(5 + 64, 40 - 128, 5 + 6400))))
        for looks in ((5, 40, 6), (40, 5, 5), (5, 40, 37), (37, 40, 5), (5, 40), (5, 40, 5, 5), (), (21, 40, 5)):
            self.assertFalse(self.passes(altered(self.sealed, looks=looks)), looks)
        kept = altered(self.sealed, looks=[69, -24, 5])
        self.assertEqual(kept.looks, (69, -24, 5))

    def test_roots(self):
        roots = self.sealed.roots
        for at in range(4):
            for other in ("", "x", roots[at - 1], roots[at] + " ", roots[at].upper()):
                self.assertFalse(self.passes(altered(self.sealed, roots=roots[:at] + (other,) + roots[at + 1:])))
        for other in (roots[:-1], roots + roots[:1], (), roots + ("",), roots[::-1]):
            self.assertFalse(self.passes(altered(self.sealed, roots=other)))
            self.assertIs(self.passes(altered(self.sealed, roots=other, looks=[], openings=[])), len(other) == 4)

    def test_openings_too_few_and_too_many(self):
        openings = self.sealed.openings
        for other in (openings[:-1], openings + openings[:1], (), ((), (), ())):
            self.assertFalse(self.passes(altered(self.sealed, openings=other)))
        for at in range(3):
            items = openings[at]
            for other in (items[:-1], items + items[-1:], items[1:], items[::-1], (), items[:4] + items[5:], items[:8],
                          items[:2] + items[2:4][::-1] + items[4:]):
                self.assertFalse(self.passes(altered(self.sealed, openings=openings[:at] + (other,) + openings[at + 1:])))
        self.assertFalse(self.passes(altered(self.sealed, openings=(openings[1], openings[0], openings[2]))))
        self.assertTrue(self.passes(altered(self.sealed, openings=(openings[2], openings[1], openings[0]))))

    def test_altered_openings(self):
        for look in (0, 1):
            for at, opening in enumerate(self.sealed.openings[look]):
                self.assertTrue(self.passes(self.sealed.changed(look, at, Opening(opening.at, opening.leaf, opening.path))))
                wrong = [Opening(opening.at + 1, opening.leaf, opening.path), Opening(opening.at, opening.leaf, ()),
                         Opening(opening.at + 64, opening.leaf, opening.path), Opening(opening.at, opening.leaf + " ", opening.path),
                         Opening(opening.at, "0" + opening.leaf, opening.path), Opening(opening.at, opening.leaf, opening.path[:-1]),
                         Opening(opening.at, opening.leaf, opening.path + ("",)), Opening(None, opening.leaf, opening.path),
                         Opening(opening.at, None, opening.path), Opening(opening.at, opening.leaf, None),
                         Opening(opening.at, 5, 5), Opening(True, opening.leaf, opening.path), Opening([], [], [[]]),
                         Opening(opening.at, opening.leaf, tuple(range(len(opening.path)))),
                         self.sealed.openings[look][at - 1]]
                for other in wrong:
                    self.assertFalse(self.passes(self.sealed.changed(look, at, other)), (at, vars(other)))
                for value in no_lists() + no_numbers():
                    self.assertFalse(self.passes(self.sealed.changed(look, at, value)))

    def test_leaves_that_a_bad_digest_lets_through(self):
        """With a constant digest each leaf opens each root: what counts are their form and their worths."""
        sealed = Sealed.of(self.talk, constant)
        self.assertTrue(self.passes(sealed, some_digest=constant))
        for at, opening in enumerate(sealed.openings[0]):
            words = opening.leaf.split(" ")
            for k in {0, len(words) - 1}:
                for other in ("0" + words[k], "+" + words[k], "-" + words[k], str(int(words[k]) + 257), "257", "", " " + words[k],
                              words[k] + " ", words[k] + " 0", "x", words[k] + "\n", "1_0", "00", words[k] + ".0", "9" * 5000,
                              "-0", str(int(words[k]) - 257)):
                    leaf = " ".join(words[:k] + [other] + words[k + 1:])
                    made = sealed.changed(0, at, Opening(opening.at, leaf, opening.path))
                    self.assertFalse(self.passes(made, some_digest=constant), (at, leaf))
            for leaf in (" ".join(words[1:]), " ".join(words + words[:1]), "  ".join(words), "", ",".join(words)):
                if leaf != opening.leaf:
                    made = sealed.changed(0, at, Opening(opening.at, leaf, opening.path))
                    self.assertFalse(self.passes(made, some_digest=constant))
            # Another index opens the root too, but is not the one that is due.
            other = Opening((opening.at + 1) % 8, opening.leaf, opening.path)
            self.assertFalse(self.passes(sealed.changed(0, at, other), some_digest=constant))

    def test_each_worth_of_the_openings_counts(self):
        sealed, seen = Sealed.of(self.talk, constant), 0
        for at, opening in enumerate(sealed.openings[0]):
            words = opening.leaf.split(" ")
            for k in range(len(words)):
                leaf = " ".join(words[:k] + [str((int(words[k]) + 1) % 257)] + words[k + 1:])
                made = sealed.changed(0, at, Opening(opening.at, leaf, opening.path))
                seen += self.passes(made, some_digest=constant)
        # Only words that no equation reads from the place behind do not count there.
        self.assertTrue(seen <= 2 * 36, seen)

    def test_each_look_has_its_own_openings(self):
        """A look passes with the worths of its own openings, also where another look has other ones there."""
        sealed = Sealed.of(self.talk, constant)
        opening = sealed.openings[0][0]
        words = opening.leaf.split(" ")
        leaf = " ".join([str((int(words[0]) + 1) % 257)] + words[1:])
        for look in (0, 2):
            made = sealed.changed(look, 0, Opening(opening.at, leaf, opening.path))
            self.assertFalse(self.passes(made, some_digest=constant))
            rest = [at for at in range(3) if at != look]
            some = altered(made, looks=[made.looks[at] for at in rest], openings=[made.openings[at] for at in rest])
            self.assertTrue(self.passes(some, some_digest=constant))

    def test_digests_of_other_lengths(self):
        for some_digest in (short, constant, itself, lambda text: str(len(text)), lambda text: ""):
            sealed = Sealed.of(self.talk, some_digest)
            self.assertTrue(self.passes(sealed, some_digest=some_digest))
            self.assertFalse(self.passes(altered(sealed, number=sealed.number + 1), some_digest=some_digest))


class ClassTests(unittest.TestCase):
    def setUp(self):
        talk = held(SMALL, of_rows(SMALL, SMALL_ROWS), coins_of(4), [5, 40], p=257, rows=4)
        self.sealed = Sealed.of(talk, digest)

    def test_copies(self):
        opening = Opening(1, "2", ["3"])
        counts, coins, looks, roots, openings = [1, 2], [300, -1], [5, 700], ["a", "b"], [[opening], [opening, None]]
        made = Sealed(257, 4, counts, coins, 258, looks, roots, openings)
        counts.pop(), coins.pop(), looks.pop(), roots.pop(), openings[0].clear(), openings.pop()
        self.assertEqual((made.counts, made.coins, made.number), ((1, 2), (43, 256), 1))
        self.assertEqual((made.looks, made.roots), ((5, 700), ("a", "b")))
        self.assertEqual(made.openings, ((opening,), (opening, None)))
        self.assertTrue(all(type(items) is tuple for items in made.openings))
        by_name = Sealed(openings=((opening,), (opening, None)), roots=("a", "b"), looks=(5, 700), number=1, coins=(43, 256),
                         counts=(1, 2), rows=4, p=257)
        self.assertTrue(made == by_name)

    def test_changed(self):
        other = Opening(0, "x", ())
        made = self.sealed.changed(1, 3, other)
        self.assertIsInstance(made, Sealed)
        told = [list(items) for items in self.sealed.openings]
        told[1][3] = other
        self.assertEqual(made.openings, tuple(tuple(items) for items in told))
        self.assertEqual({name: part for name, part in parts_of(made).items() if name != "openings"},
                         {name: part for name, part in parts_of(self.sealed).items() if name != "openings"})
        self.assertNotEqual(self.sealed.openings[1][3], other)
        self.assertEqual(self.sealed.changed(opening=other, at=3, look=1), made)
        back = made.changed(1, 3, self.sealed.openings[1][3])
        self.assertTrue(back == self.sealed)

    def test_equal(self):
        sealed = self.sealed
        self.assertTrue(sealed == altered(sealed))
        self.assertFalse(sealed != altered(sealed))
        others = [altered(sealed, rows=8), altered(sealed, counts=(4, 0, 0, 0)), altered(sealed, number=sealed.number + 1),
                  altered(sealed, coins=sealed.coins[:-1]), altered(sealed, looks=(5, 41)), altered(sealed, looks=(5, 104)),
                  altered(sealed, roots=sealed.roots[:-1]), altered(sealed, openings=sealed.openings[:1]),
                  altered(sealed, p=2013265921), sealed.changed(0, 0, None)]
        for other in others + no_lists() + no_numbers() + [tuple(parts_of(sealed).values())]:
            self.assertIs(sealed == other, False)
            self.assertIs(sealed != other, True)
        self.assertTrue(sealed == altered(sealed, coins=[n + 257 for n in sealed.coins], number=sealed.number - 257))

    def test_samples(self):
        for program, rows in SAMPLES:
            coins = coins_of(len(rows), 4, rows.p)
            teller = Laying(of_rows(program, rows), (0, 0, 0, 1))
            for looks, told in (([], True), ([1, 2], True), ([1, 0], False), ([16 * len(rows) - 16], False)):
                talk = held(program, teller, coins, looks, p=rows.p, rows=len(rows))
                passes = sealed_passes(program, Sealed.of(talk, digest), digest)
                self.assertEqual((passes, talk.verdict == "passed"), (told, told))


if __name__ == "__main__":
    unittest.main()
