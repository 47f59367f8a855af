import unittest

from shownrun.errors import BadPrime, BadShape, NotWaiting, UnknownName
from shownrun.mixed import Mixed
from shownrun.places import Places
from shownrun.polys import Poly
from shownrun.talk import Talk
from tests.samples import SAMPLES, SMALL, SMALL_ROWS, SMALL_WRONG, SQUARE, Teller, coins_of
from tests.values import FITTING, LISTED, SIZES, no_lists, no_numbers, numbers

WRONG_ROWS = SMALL_ROWS.changed("imm", 2, 10)
LAYERS = {4: 2, 8: 3, 16: 4, 32: 5, 64: 6}


def schedule(rows, looks):
    """What a talk waits for, one behind another, as pairs (waits, waits_for)."""
    coins = (["B", "z"] + ["k" + str(n) for n in range(1, 14)] + ["w"]
             + ["c" + str(n) for n in range(1, 39)] + ["r" + str(n) for n in range(1, 37)] + ["f0"])
    made = [("tables", None)] + [("coin", name) for name in coins[:16]]
    made += [("later", None)] + [("coin", name) for name in coins[16:]]
    for layer in range(1, LAYERS[rows] + 1):
        made += [("layer", None), ("coin", "f" + str(layer))]
    return made + [("number", None)] + [("look", None)] * looks + [("done", None)]


def deeds_of(program, rows, coins, looks):
    """All deeds of the honest talk about Rows, in order."""
    teller, heard, made, step = Teller(program, rows), [], [], 0
    count = len(rows.columns[0])
    for waits, _ in schedule(count, len(looks))[:-1]:
        if waits == "coin":
            made.append(("coin", coins[len(heard)]))
            heard.append(coins[len(heard)])
        elif waits == "look":
            made.append(("look", looks[0]))
            looks = looks[1:]
        else:
            made.append(("lay", teller(step, heard)))
            step += 1
    return made


def talk_behind(program, rows, coins, looks, many=None):
    """The talk behind the first deeds of the honest talk, or behind all of them."""
    talk = Talk(program, p=rows.p, rows=len(rows.columns[0]), looks=len(looks))
    talk.do(*deeds_of(program, rows, coins, looks)[:many])
    return talk


def state(talk):
    """All that a talk tells of itself."""
    laid = []
    for step in range(10):
        try:
            laid.append(talk.laid(step))
        except UnknownName:
            laid.append(None)
    try:
        mixed = talk.mixed().worth_at(5)
    except NotWaiting:
        mixed = None
    try:
        passing = [talk.passes(at) for at in (0, 1, 40)]
    except NotWaiting:
        passing = None
    return (talk.waits, talk.waits_for, talk.heard, talk.looked, talk.verdict, talk.layered, repr(talk), laid, mixed,
            passing, talk.program, talk.p, talk.rows, talk.looks)


class TalkCase(unittest.TestCase):
    def not_waiting(self, what, call, *arguments):
        with self.assertRaises(NotWaiting) as held:
            call(*arguments)
        self.assertEqual(held.exception.what, what)

    def unknown(self, talk, value):
        with self.assertRaises(UnknownName) as held:
            talk.laid(value)
        self.assertIs(held.exception.name, value)


class BeginTests(TalkCase):
    def test_a_talk_begins(self):
        for p, rows in FITTING:
            for looks in (0, 1, 60):
                talk = Talk(SMALL, p=p, rows=rows, looks=looks)
                self.assertEqual((talk.program, talk.p, talk.rows, talk.looks), (SMALL, p, rows, looks))
                self.assertEqual((talk.waits, talk.waits_for, talk.heard, talk.looked, talk.verdict, talk.layered),
                                 ("tables", None, [], [], None, False))
                self.assertIs(talk.layered, False)
                self.assertEqual(repr(talk), "Talk(0 coins, tables)")
        self.assertEqual(repr(Talk(program=SMALL, looks=0, rows=4, p=257)), "Talk(0 coins, tables)")

    def test_most(self):
        self.assertEqual(Talk.MOST, 60)
        self.assertEqual(Talk(SMALL, p=257, rows=4, looks=60).MOST, 60)

    def test_wrong_primes_and_rows(self):
        pairs = [(p, rows) for p in LISTED for rows in SIZES + (3, 128) if (p, rows) not in FITTING]
        pairs += [(value, 4) for value in no_numbers()] + [(257, value) for value in no_numbers()]
        for p, rows in pairs:
            for looks in (5, 61, None):
                with self.assertRaises(BadPrime) as held:
                    Talk(SMALL, p=p, rows=rows, looks=looks)
                self.assertIs(held.exception.p, p)
                self.assertIs(held.exception.rows, rows)

    def test_wrong_looks(self):
        for value in no_numbers() + [-1, -60, 61, 62, 100, 9999999999]:
            with self.assertRaises(BadShape) as held:
                Talk(SMALL, p=257, rows=4, looks=value)
            self.assertEqual(held.exception.what, "looks")
            self.assertIs(held.exception.count, value)


class OrderTests(TalkCase):
    def check_waiting(self, talk, waits, done, laid, looked):
        """Each deed out of turn is refused, and changes nothing."""
        before = state(talk)
        if waits not in ("tables", "later", "layer", "number"):
            self.not_waiting("lay", talk.lay, None)
            self.not_waiting("lay", talk.lay, 5)
        if waits != "coin":
            self.not_waiting("coin", talk.coin, 5)
        if waits != "look":
            self.not_waiting("look", talk.look, 5)
        if len(talk.heard) < 90:
            self.not_waiting("mixed", talk.mixed)
        if not done:
            self.not_waiting("passes", talk.passes, 5)
        for step in list(range(len(laid), 10)) + [-1, 64, 9999999999]:
            self.unknown(talk, step)
        for value in no_numbers():
            self.unknown(talk, value)
        self.assertEqual([talk.laid(step) for step in range(len(laid))], laid)
        self.assertIs(talk.layered, done)
        self.assertEqual(talk.looked, looked)
        self.assertEqual(state(talk), before)

    def run_through(self, program, rows, looks):
        p, count = rows.p, len(rows.columns[0])
        coins = coins_of(count, 2, 9 * p)
        deeds = deeds_of(program, rows, coins, looks)
        talk = Talk(program, p=p, rows=count, looks=len(looks))
        heard, laid, looked = [], [], []
        for (waits, waits_for), (word, value) in zip(schedule(count, len(looks)), deeds):
            self.assertEqual((talk.waits, talk.waits_for, talk.verdict), (waits, waits_for, None))
            self.assertEqual(talk.heard, [n % p for n in heard])
            self.assertEqual(repr(talk), "Talk({} coins, {})".format(len(heard), waits))
            if len(heard) in (0, 1, 15, 16, 17, 53, 54, 89, 90) or len(heard) > 90:
                self.check_waiting(talk, waits, len(laid) == LAYERS[count] + 3, laid, looked)
            if word == "coin":
                self.assertIsNone(talk.coin(value))
                heard.append(value)
            elif word == "look":
                self.assertIs(talk.look(value), True)
                looked.append(value % (16 * count))
            else:
                self.assertIs(talk.lay(value), True)
                laid.append(self.as_worths(value, p))
        self.assertEqual((talk.waits, talk.waits_for, talk.verdict), ("done", None, "passed"))
        self.assertEqual(repr(talk), "Talk({} coins, passed)".format(91 + LAYERS[count]))
        self.assertEqual(talk.heard, [n % p for n in coins])
        self.check_waiting(talk, "done", True, laid, looked)

    def as_worths(self, value, p):
        if isinstance(value, int):
            return value % p
        return tuple(self.as_worths(item, p) for item in value)

    def test_honest_talks_in_order(self):
        for at, (program, rows) in enumerate(SAMPLES[:5]):
            self.run_through(program, rows, [[], [3], [-1, 64, 9999999999], [0, 0, 7], [5, -5]][at])

    def test_by_name(self):
        talk = Talk(SMALL, p=257, rows=4, looks=1)
        deeds = deeds_of(SMALL, SMALL_ROWS, coins_of(4), [0])
        for word, value in deeds[:-1]:
            self.assertIs(talk.lay(value=value) if word == "lay" else talk.coin(number=value),
                          True if word == "lay" else None)
        self.assertIs(talk.passes(number=7), True)
        self.assertIs(talk.look(number=7), True)
        self.assertEqual(talk.laid(step=4), 132)
        self.assertEqual(talk.verdict, "passed")

    def test_most_rows(self):
        rows = [rows for program, rows in SAMPLES if program is SQUARE][0]
        columns = [list(column) + [0] * (64 - len(column)) for column in rows.columns]
        places = Places(12289, 64)
        words = [places.stretched(column) for column in columns]
        talk = Talk(SQUARE, p=12289, rows=64, looks=60)
        counts = [53] + [1] * 11
        self.assertIs(talk.lay((words, counts)), True)
        talk.do(*[("coin", n) for n in range(16)])
        self.assertIs(talk.lay([words[k] for k in range(7)]), True)
        talk.do(*[("coin", n) for n in range(75)])
        for layer in range(1, 7):
            self.assertEqual((talk.waits, talk.waits_for), ("layer", None))
            self.assertIs(talk.lay([0] * (1024 >> layer)), True)
            self.assertEqual((talk.waits, talk.waits_for), ("coin", "f" + str(layer)))
            talk.coin(layer)
        self.assertIs(talk.lay(3), True)
        self.assertEqual(talk.laid(8), 3)
        self.assertEqual(talk.laid(7), (0,) * 16)
        told = Mixed(SQUARE, counts, words + words[:7], list(range(16)) + list(range(74)), p=12289, rows=64)
        self.assertEqual(talk.mixed().worth_at(1023), told.worth_at(1023))
        self.assertEqual(talk.look(1023), False)


class ExampleTests(TalkCase):
    def test_the_run(self):
        talk = talk_behind(SMALL, SMALL_ROWS, coins_of(4), list(range(60)))
        self.assertEqual((talk.verdict, repr(talk)), ("passed", "Talk(93 coins, passed)"))
        self.assertEqual([talk.mixed().worth_at(at) for at in (0, 1, 32)], [51, 34, 90])
        self.assertEqual((talk.heard[90], talk.laid(2)[:3], talk.laid(4)), (195, (88, 192, 188), 132))
        self.assertEqual([talk.passes(at) for at in range(64)], [True] * 64)
        self.assertEqual(talk.laid(0)[1], (1, 1, 1, 1))

    def test_the_wrong_one(self):
        talk = talk_behind(SMALL_WRONG, WRONG_ROWS, coins_of(4), [])
        self.assertEqual((talk.laid(2)[:3], talk.laid(4)), ((198, 12, 145), 153))
        self.assertEqual(sum(talk.passes(at) for at in range(64)), 8)
        # The fold of layer 2 has the number at place 0 only, and the number stands everywhere.
        self.assertEqual([at for at in range(64) if talk.passes(at)], list(range(0, 64, 8)))

    def test_mixed(self):
        talk = talk_behind(SMALL, SMALL_ROWS, coins_of(4), [], 1 + 16 + 1 + 74)
        words, counts = talk.laid(0)
        told = Mixed(SMALL, counts, words + talk.laid(1), talk.heard[:90], p=257, rows=4)
        self.assertIsInstance(talk.mixed(), Mixed)
        self.assertEqual((len(talk.heard), talk.waits_for), (90, "f0"))
        self.assertEqual((talk.mixed().word(), talk.mixed().quotients()), (told.word(), told.quotients()))


def wrong_words(count, size):
    """Values that are no lists of so many lists of so many numbers."""
    word = [1] * size
    made = no_lists() + [[], word, [word] * (count - 1), [word] * (count + 1), [[]] * count]
    for bad in [word[1:], word + [1]] + no_lists():
        made += [[bad] + [word] * (count - 1), [word] * (count - 1) + [bad]]
    for item in no_numbers():
        made += [[word] * (count - 1) + [word[1:] + [item]], [[item] + word[1:]] + [word] * (count - 1)]
    return made


class ShapeTests(TalkCase):
    def check_wrong(self, rows, before, verdict, values):
        """Each value ends the talk at once, behind so many deeds of the honest talk."""
        program, p, count = SAMPLES[rows // 8 * 2][0], 257, rows
        coins = coins_of(count, 1, p)
        begun = talk_behind(program, SAMPLES[rows // 8 * 2][1], coins, [1, 2], before)
        told = state(begun)
        for value in values:
            talk = begun.twin()
            self.assertIs(talk.lay(value), False)
            self.assertEqual((talk.verdict, talk.waits, talk.waits_for, talk.layered), (verdict, "done", None, False))
            self.assertEqual(repr(talk), "Talk({} coins, {})".format(len(told[2]), verdict))
            self.assertEqual((talk.heard, talk.looked), (told[2], told[3]))
            self.not_waiting("lay", talk.lay, value)
            self.not_waiting("coin", talk.coin, 1)
            self.not_waiting("look", talk.look, 1)
            self.not_waiting("passes", talk.passes, 1)
            self.assertEqual(state(talk)[7:10], told[7:10])
        self.assertEqual(state(begun), told)

    def test_tables(self):
        for rows in (4, 8):
            deed = deeds_of(*SAMPLES[rows // 8 * 2], coins_of(rows, 1, 257), [])[0]
            words, counts = deed[1]
            values = no_lists() + [[], (), [words], (words,), [words, counts, counts], words, [counts, words],
                                   (words, counts, None)]
            values += [(bad, counts) for bad in wrong_words(29, 16 * rows)]
            values += [[bad, None] for bad in wrong_words(29, 16 * rows)[:20]]
            self.check_wrong(rows, 0, "tables", values)

    def test_counts(self):
        for rows in (4, 8):
            deed = deeds_of(*SAMPLES[rows // 8 * 2], coins_of(rows, 1, 257), [])[0]
            words, counts = deed[1]
            rest = [0] * (len(counts) - 2)
            wrong = no_lists() + [[], [rows], counts[1:], counts + [0], [rows] + rest, [rows, 0, 0] + rest,
                                  [rows - 1, 0] + rest, [rows, 1] + rest, [0, 0] + rest, [rows + 1, -1] + rest,
                                  [-1, rows + 1] + rest, [-rows, 0] + rest, [rows - 1, True] + rest,
                                  [rows, False] + rest, [[rows], 0] + rest, [rows, None] + rest, [str(rows), 0] + rest,
                                  [257 + rows, 0] + rest, [rows + 9999999999, -9999999999] + rest]
            self.check_wrong(rows, 0, "counts", [(words, bad) for bad in wrong] + [[words, bad] for bad in wrong[:4]])

    def test_later(self):
        for rows in (4, 8):
            self.check_wrong(rows, 17, "later", wrong_words(7, 16 * rows) + [[[1] * 16 * rows] * 29])

    def test_layers(self):
        for rows in (4, 8):
            for layer in range(1, LAYERS[rows] + 1):
                size = 16 * rows >> layer
                values = no_lists() + [[], [1] * (size - 1), [1] * (size + 1), [1] * (2 * size), [1] * (size // 2),
                                       [[1] * size], [[1]] * size, ([1] * size, [1] * size)]
                for item in no_numbers():
                    values += [[1] * (size - 1) + [item], [item] + [1] * (size - 1)]
                self.check_wrong(rows, 91 + 2 * layer, "layer", values)

    def test_number(self):
        for rows in (4, 8):
            self.check_wrong(rows, 93 + 2 * LAYERS[rows], "number", no_numbers() + [[0], (132,), [[132]], [0] * 8])

    def test_right_shapes(self):
        words = [[numbers(k, 64) for k in range(29)], tuple(tuple(numbers(k, 64)) for k in range(29))]
        for counts in ([4, 0, 0, 0], (0, 0, 0, 4), [1, 1, 1, 1], (0, 3, 1, 0)):
            for passed in words:
                for value in ((passed, counts), [passed, counts]):
                    talk = Talk(SMALL, p=257, rows=4, looks=1)
                    self.assertIs(talk.lay(value), True)
                    told = tuple(tuple(n % 257 for n in word) for word in passed), tuple(counts)
                    self.assertEqual(talk.laid(0), told)
                    self.assertEqual((talk.waits, talk.waits_for), ("coin", "B"))

    def test_laid_numbers_are_read_as_worths(self):
        coins = coins_of(4)
        talk = Talk(SMALL, p=257, rows=4, looks=1)
        for word, value in deeds_of(SMALL, SMALL_ROWS, coins, []):
            if word == "coin":
                talk.coin(value - 3 * 257)
            elif not talk.heard:
                talk.lay(([[n + 257 for n in row] for row in value[0]], value[1]))
            elif len(talk.heard) == 16:
                talk.lay([[n - 257 for n in row] for row in value])
            else:
                talk.lay([n - 514 for n in value] if isinstance(value, tuple) else value + 2570)
        told = talk_behind(SMALL, SMALL_ROWS, coins, [0], -1)
        self.assertEqual([talk.laid(step) for step in range(5)], [told.laid(step) for step in range(5)])
        self.assertEqual((talk.heard, talk.look(-1), talk.verdict), (told.heard, True, "passed"))

    def test_what_was_laid_may_be_changed_behind(self):
        words, counts = [[k] * 64 for k in range(29)], [1, 1, 1, 1]
        talk = Talk(SMALL, p=257, rows=4, looks=1)
        value = [words, counts]
        talk.lay(value)
        self.assertEqual(value, [[[k] * 64 for k in range(29)], [1, 1, 1, 1]])
        told = talk.laid(0)
        words[0][0], counts[0] = 99, 4
        words.pop()
        value.clear()
        self.assertEqual(talk.laid(0), told)
        self.assertEqual(told[0][0], (0,) * 64)
        self.assertEqual([type(told), type(told[0]), type(told[0][0]), type(told[1])], [tuple] * 4)
        talk.heard.append(5)
        talk.looked.append(5)
        self.assertEqual((talk.heard, talk.looked), ([], []))


def told_passing(talk):
    """The places at which a look would pass, worked out once more of what was laid and heard."""
    p, size, layers = talk.p, 16 * talk.rows, LAYERS[talk.rows]
    places = Places(p, talk.rows)
    words = [talk.mixed().word()] + [talk.laid(1 + layer) for layer in range(1, layers + 1)]
    words.append((talk.laid(layers + 2),) * 8)
    made = []
    for at in range(size):
        agrees = True
        for layer in range(layers + 1):
            half = size >> (layer + 1)
            low, high = words[layer][at % half], words[layer][at % half + half]
            x = pow(places.place(at % half), 2 ** layer, p)
            folded = (low + high) * pow(2, p - 2, p) + talk.heard[90 + layer] * (low - high) * pow(2 * x, p - 2, p)
            agrees = agrees and folded % p == words[layer + 1][at % half]
        made.append(agrees)
    return made


class LookTests(TalkCase):
    def laid_talk(self, changes, rows=SMALL_ROWS, program=SMALL, looks=3):
        """A talk behind its number, with changed worths: triples (step, place, worth)."""
        coins = coins_of(len(rows.columns[0]))
        talk = Talk(program, p=rows.p, rows=len(rows.columns[0]), looks=looks)
        step = 0
        for word, value in deeds_of(program, rows, coins, []):
            if word == "coin":
                talk.coin(value)
                continue
            for at, place, worth in changes:
                if at == step and step == 1:
                    value = [list(row) for row in value]
                    value[3][place] += worth
                elif at == step:
                    value = value + worth if isinstance(value, int) else list(value)
                    if isinstance(value, list):
                        value[place] += worth
            talk.lay(value)
            step += 1
        return talk

    def changed_talks(self):
        return [self.laid_talk(changes) for changes in
                ([], [(2, 0, 1)], [(2, 31, 5), (2, 3, 8)], [(3, 0, 1)], [(3, 15, -4)], [(4, 0, 1)], [(1, 40, 9)],
                 [(1, 0, 1), (3, 7, 2)])] + [
            self.laid_talk([], WRONG_ROWS, SMALL_WRONG), self.laid_talk([(4, 0, 18)], WRONG_ROWS, SMALL_WRONG),
            self.laid_talk([(2, 9, 1)], SAMPLES[2][1], SAMPLES[2][0]),
            self.laid_talk([(4, 3, 1)], SAMPLES[3][1], SAMPLES[3][0])]

    def test_passes_at_each_place(self):
        mixed_ones = 0
        for talk in self.changed_talks():
            told, size = told_passing(talk), 16 * talk.rows
            self.assertEqual([talk.passes(at) for at in range(size)], told)
            for at in [-1, -size, -5 * size - 3, size, size + 7, 9999999999, -9999999999]:
                self.assertIs(talk.passes(at), told[at % size])
            mixed_ones += len(set(told)) == 2
            self.assertEqual((talk.looked, talk.verdict), ([], None))
        self.assertGreaterEqual(mixed_ones, 8)

    def test_looks_and_their_verdicts(self):
        for talk in self.changed_talks():
            told, size = told_passing(talk), 16 * talk.rows
            good = [at for at in range(size) if told[at]]
            bad = [at for at in range(size) if not told[at]]
            for looks in (good[:3], bad[:3], good[:2] + bad[:1], bad[:1] + good[-2:], good[:1] + bad[-1:] + good[-1:],
                          [at - 7 * size for at in good[:3]], [at + 9999999999 // size * size for at in bad[:3]]):
                if len(looks) == 3:
                    self.check_looks(talk.twin(), looks, told)

    def check_looks(self, talk, looks, told):
        size, answers = 16 * talk.rows, []
        for at, number in enumerate(looks):
            self.assertEqual((talk.waits, talk.verdict), ("look", None))
            answers.append(talk.look(number))
            self.assertIs(answers[-1], told[number % size])
            self.assertEqual(talk.looked, [n % size for n in looks[:at + 1]])
        self.assertEqual((talk.waits, talk.verdict), ("done", "passed" if all(answers) else "look"))
        self.assertEqual(repr(talk), "Talk({} coins, {})".format(len(talk.heard), talk.verdict))
        self.not_waiting("look", talk.look, 0)
        self.assertEqual([talk.passes(n) for n in range(size)], told)

    def test_a_failed_look_is_kept_by_do_and_twins(self):
        talk = self.laid_talk([(2, 0, 1)])
        told = told_passing(talk)
        good, bad = told.index(True), told.index(False)
        self.assertEqual(talk.do(("look", bad)), [False])
        twin = talk.twin()
        self.assertEqual(talk.peek(("look", good), ("look", good)), "look")
        for one in (twin, talk):
            self.assertEqual(one.do(("look", good)), [True])
            self.assertIs(one.look(good), True)
            self.assertEqual((one.verdict, one.looked), ("look", [bad, good, good]))
        talk = self.laid_talk([(2, 0, 1)])
        self.assertIs(talk.look(bad), False)
        self.assertEqual(talk.twin().do(("look", good), ("look", good)), [True, True])
        self.assertEqual(talk.peek(("look", good), ("look", good)), "look")

    def test_without_looks(self):
        for changes in ([], [(2, 0, 1)], [(4, 0, 1)]):
            talk = self.laid_talk(changes, looks=0)
            self.assertEqual((talk.waits, talk.verdict, talk.layered, talk.looked), ("done", "passed", True, []))
            self.not_waiting("look", talk.look, 0)

    def test_sixty_looks(self):
        talk = self.laid_talk([(2, 0, 1)], looks=60)
        told = told_passing(talk)
        self.assertEqual([talk.look(at) for at in range(4, 63)], told[4:63])
        self.assertEqual((talk.waits, talk.verdict), ("look", None))
        talk.look(1)
        self.assertEqual((talk.waits, talk.verdict, len(talk.looked)), ("done", "look", 60))

    def test_behind_a_verdict_all_goes_on(self):
        talk = self.laid_talk([(2, 0, 1)])
        told = state(talk)
        for at in (0, 1, 2):
            talk.look(at)
        self.assertEqual(talk.verdict, "look")
        now = state(talk)
        self.assertEqual(now[:7], ("done", None, told[2], [0, 1, 2], "look", True, "Talk(93 coins, look)"))
        self.assertEqual(now[7:], told[7:])

    def test_the_order_of_asking_does_not_matter(self):
        one, other = self.laid_talk([(2, 0, 1)]), self.laid_talk([(3, 3, 1)])
        told = [talk.mixed().word() for talk in (one, other)] + [told_passing(talk) for talk in (one, other)]
        for at in (5, 0, 5, 63, -1, 32):
            self.assertIs(one.passes(at), told[2][at])
            self.assertIs(other.passes(at), told[3][at])
        self.assertEqual([one.mixed().word(), other.mixed().word()], told[:2])


class DoTests(TalkCase):
    def setUp(self):
        self.deeds = deeds_of(SMALL, SMALL_ROWS, coins_of(4), [0, -1])

    def talk(self, many=0):
        made = Talk(SMALL, p=257, rows=4, looks=2)
        for word, value in self.deeds[:many]:
            {"lay": made.lay, "coin": made.coin, "look": made.look}[word](value)
        return made

    def test_what_do_returns(self):
        told = {"lay": True, "coin": None, "look": True}
        talk = self.talk()
        self.assertEqual(talk.do(*self.deeds), [told[word] for word, _ in self.deeds])
        self.assertEqual(state(talk), state(self.talk(len(self.deeds))))
        self.assertEqual(talk.verdict, "passed")

    def test_in_parts_and_with_lists_as_pairs(self):
        talk = self.talk()
        self.assertEqual(talk.do(), [])
        self.assertEqual(talk.do(list(self.deeds[0])), [True])
        self.assertEqual(talk.do(*[list(deed) for deed in self.deeds[1:5]]), [None] * 4)
        self.assertEqual(state(talk), state(self.talk(5)))
        self.assertEqual(talk.do(*self.deeds[5:97]), [None] * 12 + [True] + [None] * 75 + [True, None, True, None])
        self.assertEqual(talk.do(*self.deeds[97:]), [True, True, True])
        self.assertEqual(state(talk), state(self.talk(100)))

    def test_a_wrong_shape_and_a_failing_look(self):
        talk = self.talk(97)
        self.assertEqual(talk.do(("lay", 5), ("look", 0), ("look", 1)), [True, False, False])
        self.assertEqual(talk.verdict, "look")
        talk = self.talk(97)
        self.assertEqual(talk.do(("lay", "5")), [False])
        self.assertEqual(talk.verdict, "number")

    def test_all_is_as_before_if_one_raises_an_error(self):
        for before, deeds, what in (
                (0, [("coin", 1)], "coin"), (0, [("look", 1)], "look"), (0, self.deeds[:1] * 2, "lay"),
                (0, [self.deeds[0], ("coin", 1), ("look", 1)], "look"), (0, [("lay", None), ("coin", 1)], "coin"),
                (3, self.deeds[3:17] + [("coin", 4)], "coin"), (5, self.deeds[5:] + [("look", 4)], "look"),
                (5, self.deeds[5:] + [("lay", 4)], "lay"), (95, [self.deeds[95], ("coin", 3), ("coin", 3)], "coin"),
                (98, [("look", 1), ("look", 2), ("look", 3)], "look"), (98, [("look", 1), ("coin", 2)], "coin"),
                (97, [("lay", []), ("look", 2)], "look"), (100, [("coin", 2)], "coin")):
            talk = self.talk(before)
            told = state(talk)
            self.not_waiting(what, talk.do, *deeds)
            self.assertEqual(state(talk), told)
            self.not_waiting(what, talk.peek, *deeds)
            self.assertEqual(state(talk), told)
            talk.do(*self.deeds[before:])
            self.assertEqual(talk.verdict, "passed")

    def test_peek(self):
        talk = self.talk()
        told = state(talk)
        self.assertIsNone(talk.peek())
        self.assertIsNone(talk.peek(*self.deeds[:-1]))
        self.assertEqual(talk.peek(*self.deeds), "passed")
        self.assertEqual(talk.peek(*(self.deeds[:-1] + [["look", 1]])), "passed")
        self.assertEqual(talk.peek(("lay", None)), "tables")
        self.assertEqual(talk.peek(("lay", (self.deeds[0][1][0], []))), "counts")
        self.assertEqual(state(talk), told)
        talk = self.talk(97)
        told = state(talk)
        self.assertEqual(talk.peek(("lay", 5), ("look", 0), ("look", 0)), "look")
        self.assertIsNone(talk.peek(("lay", 5), ("look", 0)))
        self.assertEqual(talk.peek(("lay", True)), "number")
        self.assertEqual(state(talk), told)
        talk.do(*self.deeds[97:])
        self.assertEqual(talk.peek(), "passed")

    def test_twins(self):
        for before in (0, 1, 9, 17, 18, 60, 92, 93, 95, 97, 98, 99, 100):
            talk = self.talk(before)
            told = state(talk)
            twin = talk.twin()
            self.assertIsInstance(twin, Talk)
            self.assertEqual(state(twin), told)
            twin.do(*self.deeds[before:])
            self.assertEqual(state(talk), told)
            last = state(twin)
            self.assertEqual(last, state(self.talk(100)))
            if before < 100:
                other = talk.twin()
                {"lay": talk.lay, "coin": talk.coin, "look": talk.look}[self.deeds[before][0]](3)
                self.assertEqual(state(other), told)
                self.assertEqual(state(twin), last)
                self.assertNotEqual(state(talk), told)


if __name__ == "__main__":
    unittest.main()
