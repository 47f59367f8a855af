"""Talks whose reasons are known, and the lots of their coins by the words of the document.

Coins may be chosen here, so that tellers seem to know them ahead.
"""

from collections import Counter

from shownrun.draws import Draws, coin_names
from shownrun.folds import fold, fold_lot
from shownrun.lines import Line, Program
from shownrun.mixed import Mixed
from shownrun.near import mix_lot, together
from shownrun.places import Places
from shownrun.polys import Poly
from shownrun.talk import held
from shownrun.tellers import Changed, Tables, of_rows
from tests.samples import (COLUMNS, EQUATIONS, FIELDS, SAMPLES, SMALL, SMALL_ROWS, SMALL_WRONG, coins_of, rows_of_kind,
                           rows_of_run, told_equation)
from tests.values import numbers

LAYERS = {4: 2, 8: 3, 16: 4, 32: 5, 64: 6}


class Case:
    """A talk with what it is about: its reason is told as a tuple that begins with its kind."""

    def __init__(self, label, teller, coins, reason, looks=()):
        self.label, self.reason = label, reason
        self.program, self.p, self.rows = teller.program, teller.p, teller.rows
        self.teller, self.coins, self.looks = teller, list(coins), list(looks)
        self.talk = held(teller.program, teller, self.coins, self.looks, p=teller.p, rows=teller.rows)


class Laying:
    """A teller of the tests: a Changed one that tells what it is about, as Tables do."""

    def __init__(self, teller, *changes):
        self.program, self.p, self.rows = teller.program, teller.p, teller.rows
        self.teller = Changed(teller, *changes)

    def __call__(self, step, heard):
        return self.teller(step, heard)


def with_coins(coins, rows, **worths):
    """Coins with other worths for some names."""
    names, made = coin_names(rows), list(coins)
    for name, worth in worths.items():
        made[names.index(name)] = worth
    return made


def some_coins(rows, seed, p, **worths):
    """Coins that look like chance, none of them 0, with chosen worths for some names."""
    return with_coins([1 + n % (p - 1) for n in coins_of(rows, seed, p)], rows, **worths)


def without_equations(rows, seed, p, **worths):
    """Coins with 0 for all mixers of equations, so that C is 0 everywhere."""
    zeros = {"c" + str(n): 0 for n in range(1, 39)}
    return some_coins(rows, seed, p, **{**zeros, **worths})


def only_first_word(rows, seed, p):
    """Coins by which the mixed word is that of the first column."""
    zeros = {"r" + str(n): 0 for n in range(2, 37)}
    return without_equations(rows, seed, p, r1=1, **zeros)


def changed_rows(rows, changes):
    for name, at, worth in changes:
        rows = rows.changed(name, at, worth)
    return rows


def unfolded(code, word, coin, seed):
    """A word of a paired code whose fold by a coin is a word of its half, and whose odd part looks like chance."""
    p, places = code.p, code.places[:len(code) // 2]
    odd = numbers(seed, len(word), 0, p - 1)
    even = [worth - coin * other for worth, other in zip(word, odd)]
    return [(low + x * high) % p for low, high, x in zip(even, odd, places)] + [
        (low - x * high) % p for low, high, x in zip(even, odd, places)]


def far_words(p, rows, first, count=36):
    """Words of which only the first one is not 0."""
    return [list(first)] + [[0] * (16 * rows)] * (count - 1)


def plain(program, words, counts, p, rows):
    """A Tables teller for 36 words."""
    return Tables(program, words[:29], counts, words[29:], p=p, rows=rows)


def two_worths(p):
    """Rows of the program SMALL_WRONG whose address 4 has two worths, of which the sorted touches have one."""
    changes = [(name, 2, 10) for name in ("dv", "xv", "yv", "imm")] + [("t", 2, 1 - 100)]
    return changed_rows(rows_of_run(SMALL, [], p, 4), changes)


def mix_at(fields, coins, p):
    return (fields[0] + sum(coin * field for coin, field in zip(coins[2:15], fields[1:]))) % p


def honest_cases():
    made = []
    for at, (program, rows) in enumerate(SAMPLES):
        coins = some_coins(len(rows), at, rows.p)
        made.append(Case("honest " + str(at), of_rows(program, rows), coins, ("found", ()), [0, 5, 16 * len(rows) - 1]))
    return made


def few_changes():
    """Changes at few places: the words are together, and the mended rows are a run."""
    made, coins = [], some_coins(4, 3, 257)
    teller = of_rows(SMALL, SMALL_ROWS)
    for label, changes, lot in (("a column", [(0, 3, 5, 1)], (5,)), ("two columns", [(0, 3, 5, 1), (0, 7, 6, 2)], (5, 6)),
                                ("a later column", [(1, 2, 60, -4)], (60,)), ("a layer", [(2, 0, 3, 1)], ()),
                                ("the last layer", [(3, 0, 9, 8)], ()),
                                ("columns at one place", [(0, at, 40, 7) for at in range(29)], (40,)),
                                ("four places", [(0, 1, at, 1) for at in (0, 1, 32, 33)], (0, 1, 32, 33))):
        made.append(Case("few: " + label, Laying(teller, *changes), coins, ("found", lot)))
    return made


def many_changes():
    """Changes at many places: more than b places are bad."""
    made, coins = [], some_coins(4, 3, 257)
    teller = of_rows(SMALL, SMALL_ROWS)
    made.append(Case("many: a column", Laying(teller, *[(0, 3, at, 1) for at in range(0, 64, 3)]), coins, ("missed",)))
    made.append(Case("many: the number", Laying(teller, (4, 0, 0, 1)), coins, ("missed",)))
    made.append(Case("many: a layer", Laying(teller, *[(3, 0, at, 1 + at) for at in range(16)]), coins, ("missed",)))
    wrong = of_rows(SMALL_WRONG, SMALL_ROWS.changed("imm", 2, 10))
    made.append(Case("many: the example", wrong, coins_of(4), ("missed",), [0, 8, 16, 56]))
    return made


def bad_number_cases():
    """Just b and just b + 2 bad places: a layer is changed so that so many places are bad."""
    made, coins = [], some_coins(4, 9, 257)
    teller = of_rows(SMALL, SMALL_ROWS)
    # A change of layer 1 makes four places bad, if its own fold does not hide it.
    for count in (4, 5):
        changes = [(2, 0, at, 1) for at in range(count)]
        made.append(Case("changes of a layer: " + str(count), Laying(teller, *changes), coins,
                         ("found", ()) if count == 4 else ("missed",)))
    # A change of g3 makes two places bad.
    for count in (8, 9):
        changes = [(1, 2, 3 * at, 1) for at in range(count)]
        reason = ("found", tuple(range(0, 24, 3))) if count == 8 else ("missed",)
        made.append(Case("changes of a later column: " + str(count), Laying(teller, *changes), coins, reason))
    return made


def touch_cases(p):
    """Memory with two worths at an address, and coins B or z that hide it."""
    teller = of_rows(SMALL_WRONG, two_worths(p))
    made = [Case("B", teller, some_coins(4, 1, p, B=0), ("unlucky", "B", 0), [1, 2, 3])]
    # Address 3 with the worth 3 stands in both bags.
    made.append(Case("z", teller, some_coins(4, 1, p, B=7, z=3 + 21), ("unlucky", "z", 24 % p), [1, 2, 3]))
    return made


def field_cases(p):
    """Lines that are not those of the program, and coins k or w that hide it."""
    made = []
    rows = rows_of_run(SMALL, [], p, 4)
    set_lines = SMALL.lines
    others = {3: Line("ask", 1, 1, 1, 9), 10: Line("set", 5, 1, 1, 9), 11: Line("set", 1, 0, 1, 9),
              12: Line("set", 1, 1, -9, 9), 13: Line("set", 1, 1, 1, 10)}
    for number, line in others.items():
        program = Program([set_lines[0], set_lines[1], line, set_lines[3]], 2)
        name = "k" + str(number)
        teller = of_rows(program, rows)
        made.append(Case(name, teller, some_coins(4, number, p, **{name: 0}), ("unlucky", name, 0), [7, 8]))
    # Two fields are other ones, and k13 makes up for what k12 tells.
    program = Program([set_lines[0], set_lines[1], Line("set", 1, 1, 3, 8), set_lines[3]], 2)
    made.append(Case("k12 and k13", of_rows(program, rows), some_coins(4, 5, p, k12=20, k13=40),
                     ("unlucky", "k13", 40), [7, 8]))
    program = Program([set_lines[0], set_lines[1], Line("mul", 1, 1, 1, 9), set_lines[3]], 2)
    made.append(Case("k2 and k3", of_rows(program, rows), some_coins(4, 6, p, k2=11, k3=11), ("unlucky", "k3", 11), []))
    coins = some_coins(4, 8, p)
    program = Program([set_lines[0], set_lines[1], Line("set", 1, 1, 1, 10), set_lines[3]], 2)
    w = mix_at(program.lines[1].fields(1, p=p), [n % p for n in coins], p)
    made.append(Case("w", of_rows(program, rows), with_coins(coins, 4, w=w), ("unlucky", "w", w), [7, 8, 9]))
    # The counts tell other lines than the rows.
    counts = [2, 0, 1, 1]
    lines = [SMALL.lines[at].fields(at, p=p) for at in range(4)]
    w = mix_at(lines[3], [n % p for n in coins], p)
    made.append(Case("w and counts", of_rows(SMALL, rows, counts), with_coins(coins, 4, w=w), ("unlucky", "w", w), [5]))
    return made


def equation_cases(p):
    """Rows of which an equation fails, and the mixer c that hides it."""
    made = []
    rows = rows_of_run(SMALL, [], p, 4)
    wrong = rows.changed("imm", 2, 10)
    teller = of_rows(SMALL_WRONG, wrong)
    made.append(Case("c6", teller, some_coins(4, 2, p, c6=0), ("unlucky", "c6", 0), [1, 2]))
    # Equations 6 and 9 fail at one row: E6 is 9 - 10, E9 is the change of t.
    both = wrong.changed("t", 2, wrong.column("t")[2] + 5)
    coins = some_coins(4, 2, p)
    c6 = coins[16 + 5]
    c9 = c6 * pow(5, p - 2, p) % p
    made.append(Case("c6 and c9", of_rows(SMALL_WRONG, both), with_coins(coins, 4, c9=c9), ("unlucky", "c9", c9), [1]))
    # A wrong frame fails equation 19 alone.
    made.append(Case("c19", of_rows(Program(SMALL.lines, 3), rows), some_coins(4, 2, p, c19=0),
                     ("unlucky", "c19", 0), [1]))
    return made


def mix_cases(p):
    """Words that are far, and mixers r that hide it."""
    made = []
    teller = of_rows(SMALL, rows_of_run(SMALL, [], p, 4))
    coins = without_equations(4, 4, p)
    low, high = coins[54 + 34], coins[54 + 35]
    ratio = -low * pow(high, p - 2, p) % p
    changes = []
    for at in range(20, 45):
        changes += [(1, 5, at, at), (1, 6, at, at * ratio % p)]
    made.append(Case("r36", Laying(teller, *changes), coins, ("unlucky", "r36", high), [1, 20, 21, 22]))
    # Two words are far at the same places; what the first brings in, the second takes out.
    low, high = coins[54 + 3], coins[54 + 10]
    ratio = -low * pow(high, p - 2, p) % p
    changes = []
    for at in range(0, 64, 2):
        changes += [(0, 3, at, 1 + at), (0, 10, at, (1 + at) * ratio % p)]
    made.append(Case("r11", Laying(teller, *changes), coins, ("unlucky", "r11", high), [0, 2, 63]))
    # All mixers are 0, and so is the mixed word, whatever is laid.
    zeros = without_equations(4, 4, p, **{"r" + str(n): 0 for n in range(1, 37)})
    words = [numbers(k, 64, 0, p - 1) for k in range(36)]
    made.append(Case("all words", plain(SMALL, words, [1, 1, 1, 1], p, 4), zeros, ("unlucky", "r36", 0), [5, 6]))
    near = [Places(p, 4).stretched(numbers(k, 4)) for k in range(36)]
    near[7] = numbers(3, 64)
    made.append(Case("one word", plain(SMALL, near, [1, 1, 1, 1], p, 4), zeros, ("unlucky", "r8", 0), [5, 6]))
    return made


def fold_cases(p, rows):
    """A mixed word that is far, and coins f that hide it in their fold."""
    made, places = [], Places(p, rows)
    coins = only_first_word(rows, 5, p)
    for last in range(LAYERS[rows] + 1):
        word = [7] * (16 * rows >> (last + 1))
        for layer in reversed(range(last + 1)):
            word = unfolded(places.layer(layer), word, coins[90 + layer], 31 * rows + layer)
        teller = plain(SMALL, far_words(p, rows, word), [rows, 0, 0, 0], p, rows)
        made.append(Case("f" + str(last), teller, coins, ("unlucky", "f" + str(last), coins[90 + last]), [3, 4]))
    # Few places part, and the fold hides one of them: the worths at place 3 and at the opposite one.
    word = list(places.stretched(numbers(2, rows)))
    for at, worth in enumerate(unfolded(places.layer(0), [0] * (8 * rows), coins[90], 77)):
        if at in (3, 3 + 8 * rows):
            word[at] = (word[at] + worth) % p
    teller = plain(SMALL, far_words(p, rows, word), [rows, 0, 0, 0], p, rows)
    made.append(Case("f0 at a place", teller, coins, ("unlucky", "f0", coins[90]), [3, 3 + 8 * rows]))
    return made


def two_runs():
    """The words of two runs in one table: those of one at the first places, those of the other one behind."""
    p = 257
    one, other = of_rows(SMALL, SMALL_ROWS), of_rows(SMALL, SMALL_ROWS.changed("dv", 3, 5))
    coins = some_coins(4, 6, p)
    seven = one(1, coins[:16]), other(1, coins[:16])
    words = [list(low[:32]) + list(high[32:]) for low, high in zip(one.words + seven[0], other.words + seven[1])]
    return [Case("two runs", plain(SMALL, words, [1, 1, 1, 1], p, 4), coins, ("missed",))]


def unlucky_cases(p=257):
    made = touch_cases(p) + field_cases(p) + equation_cases(p) + mix_cases(p) + fold_cases(p, 4)
    return made


def all_cases():
    """Cases of talks that pass, for each kind of reason."""
    return honest_cases() + few_changes() + many_changes() + bad_number_cases() + unlucky_cases() + two_runs()


def merged_items(items, coins, p):
    for coin in coins:
        items = [((item[0] + coin * item[1]) % p,) + tuple(item[2:]) for item in items]
    return items


def told_product(items, worth, p):
    total = 1
    for item in items:
        total = total * (worth - item[0]) % p
    return total


def told_early_lot(talk, columns, name):
    """The lot of an early coin, by trying all worths."""
    p, coins = talk.p, talk.heard
    named = dict(zip(COLUMNS, columns))
    count = talk.rows
    if name in ("B", "z"):
        one = [(named[k + "a"][at], named[k + "v"][at]) for at in range(count) for k in "dxy"]
        other = [(named["A" + k][at], named["V" + k][at]) for at in range(count) for k in "123"]
        ahead = [] if name == "B" else coins[:1]
    else:
        one = [tuple(named[field][at] for field in FIELDS) for at in range(count)]
        counts = talk.laid(0)[1]
        other = [tuple(n % p for n in (at, *[int(line.op == flag) for flag in FIELDS[1:10]], line.a, line.b, line.c,
                                       line.imm)) for at, line in enumerate(talk.program.lines) for _ in range(counts[at])]
        ahead = coins[2:15] if name == "w" else coins[2:1 + int(name[1:])]
    one, other = merged_items(one, ahead, p), merged_items(other, ahead, p)
    if Counter(one) == Counter(other):
        return ()
    if name in ("z", "w"):
        return tuple(m for m in range(p) if told_product(one, m, p) == told_product(other, m, p))
    return tuple(m for m in range(p) if Counter(merged_items(one, [m], p)) == Counter(merged_items(other, [m], p)))


def told_fails(talk, columns, number):
    """Whether an equation fails at some row of its kind, on 36 columns."""
    closing = talk.program.closing(talk.laid(0)[1], Draws(talk.heard[:16], p=talk.p))
    lines = list(zip(*columns))
    return any(told_equation(number, lines[at], lines[(at + 1) % talk.rows], talk.heard[:16], talk.p,
                             talk.program.frame, closing) for at in rows_of_kind(EQUATIONS[number - 1][0], talk.rows))


def told_mixer_lot(talk, polys, columns, number):
    """The lot of a coin c, by dividing polynomials."""
    p, rows, coins = talk.p, talk.rows, talk.heard
    places, frame = Places(p, rows), talk.program.frame
    closing = talk.program.closing(talk.laid(0)[1], Draws(coins[:16], p=p))
    if not told_fails(talk, columns, number) or any(told_fails(talk, columns, i) for i in range(number + 1, 39)):
        return ()
    every = Poly([-1] + [0] * (rows - 1) + [1], p=p)
    last = pow(places.row_root, rows - 1, p)
    divisors = {"all": every, "step": every.divided(Poly([-last, 1], p=p))[0], "first": Poly([-1, 1], p=p),
                "last": Poly([-last, 1], p=p)}
    xs = [places.place(at) for at in range(16 * rows)]
    here = [[poly(x) for poly in polys] for x in xs]
    behind = [[poly(places.row_root * x) for poly in polys] for x in xs]
    own, others = Poly(p=p), Poly(p=p)
    for i in range(1, 39):
        worths = [told_equation(i, one, two, coins[:16], p, frame, closing) for one, two in zip(here, behind)]
        poly = Poly.through(list(zip(xs, worths)), p=p) * every.divided(divisors[EQUATIONS[i - 1][0]])[0]
        if i == number:
            own = poly
        else:
            others = others + poly.scaled(coins[15 + i])
    return tuple(m for m in range(p) if (others + own.scaled(m)).divided(every)[1].degree < 0)


def told_words(talk):
    """w_0 to w_(k+1), and the word of C."""
    words, counts = talk.laid(0)[0] + talk.laid(1), talk.laid(0)[1]
    last = LAYERS[talk.rows]
    mixed = Mixed(talk.program, counts, words, talk.heard[:90], p=talk.p, rows=talk.rows)
    made = [mixed.word()] + [talk.laid(1 + layer) for layer in range(1, last + 1)]
    return made + [(talk.laid(last + 2),) * 8], mixed.quotients()


def told_lot(talk, name):
    """The lot of a coin by the words of [39]."""
    places, b = Places(talk.p, talk.rows), 4 * talk.rows
    words = talk.laid(0)[0] + talk.laid(1)
    layers, quotients = told_words(talk)
    if name[0] == "f":
        at = int(name[1:])
        return fold_lot(places.layer(at), layers[at], b // 2 ** (at + 1))
    if name[0] == "r":
        return mix_lot(places.layer(0), quotients, words, talk.heard[54:90], int(name[1:]), b)
    found = together(places.layer(0), words[:36 if name[0] == "c" else 29], b)
    if found is None:
        return ()
    columns = [places.column(poly) for poly in found[0]]
    if name[0] == "c":
        return told_mixer_lot(talk, found[0], columns, int(name[1:]))
    return told_early_lot(talk, columns, name)


def told_bad(talk):
    """The bad places, by the folds of all words."""
    layers, _ = told_words(talk)
    places, bad = Places(talk.p, talk.rows), []
    folds = [fold(places.layer(at), layers[at], talk.heard[90 + at]) for at in range(len(layers) - 1)]
    for at in range(16 * talk.rows):
        if any(folded[at % len(folded)] != behind[at % len(folded)] for folded, behind in zip(folds, layers[1:])):
            bad.append(at)
    return tuple(bad)


def part_of(name, rows):
    """How many members the lot of a coin has at most."""
    if name in ("B", "z"):
        return 3 * rows
    if name[0] in "kw":
        return rows
    if name[0] == "c":
        return 1
    return 4 * rows + 1 if name[0] == "r" else 4 * rows // 2 ** (int(name[1:]) + 1) + 1

