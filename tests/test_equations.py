import unittest

from shownrun.draws import Draws
from shownrun.equations import KINDS, equation, failing, failing_first, later
from shownrun.rows import Rows
from tests.samples import (COLUMNS, EQUATIONS, SAMPLES, SMALL, SMALL_ROWS, SMALL_WRONG, coins_of, columns_of,
                           counts_of, mix_of, rows_of_kind, rows_of_run, told_equation, told_failing)
from tests.values import numbers

FLAGS = ("add", "mul", "set", "same", "jz", "call", "ret", "here", "stop")


def flagged(seed, name):
    """A row that looks like chance, but with just one flag, or none."""
    row = numbers(seed, 36)
    for flag in FLAGS:
        row[COLUMNS.index(flag)] = int(flag == name)
    return row


class KindTests(unittest.TestCase):
    def test_kinds(self):
        self.assertIs(type(KINDS), tuple)
        self.assertEqual(KINDS, tuple(kind for kind, _ in EQUATIONS))
        self.assertEqual(KINDS, ("all",) * 13 + ("step",) * 3 + ("first",) * 3 + ("last",) + ("all",) * 4
                         + ("step",) * 2 + ("first", "all", "all", "step") * 2 + ("first", "step", "last", "last"))


class EquationTests(unittest.TestCase):
    def check(self, here, behind, seed, p):
        coins, (frame, closing) = numbers(seed, 16), numbers(seed + 1, 2, 0, 999999)
        draws = Draws(coins, p=p)
        for number in range(1, 39):
            told = told_equation(number, here, behind, coins, p, frame, closing)
            made = equation(number, tuple(here), tuple(behind), draws, frame=frame, closing=closing)
            self.assertIs(type(made), int)
            self.assertEqual(made, told, number)
            by_name = equation(behind=behind, here=here, number=number, closing=closing, frame=frame, draws=draws)
            self.assertEqual(by_name, told, number)

    def test_at_rows_of_any_worths(self):
        for p in (193, 257, 7681, 2013265921):
            for seed in range(6):
                self.check(numbers(seed, 36), numbers(seed + 50, 36), seed, p)

    def test_with_one_flag_each(self):
        for p in (193, 257, 7681, 2013265921):
            for seed, name in enumerate(FLAGS + ("ask",)):
                self.check(flagged(seed, name), flagged(seed + 20, "add"), seed, p)

    def test_each_column_alone(self):
        for at in range(36):
            here, behind = [0] * 36, [0] * 36
            here[at] = 3
            self.check(here, behind, at, 257)
            behind[at] = 5
            here[at] = 0
            self.check(here, behind, at, 257)

    def test_what_was_passed_stays(self):
        here, behind = numbers(1, 36), numbers(2, 36)
        for number in range(1, 39):
            equation(number, here, behind, Draws([1] * 16, p=257), frame=2, closing=3)
        self.assertEqual((here, behind), (numbers(1, 36), numbers(2, 36)))

    def test_each_one_holds_at_runs(self):
        for program, rows in SAMPLES:
            coins = coins_of(len(rows), seed=9, p=rows.p)
            draws = Draws(coins[:16], p=rows.p)
            closing = program.closing(counts_of(program, rows), draws)
            lines = list(zip(*columns_of(rows, coins)))
            for number, kind in enumerate(KINDS, 1):
                for at in rows_of_kind(kind, len(lines)):
                    behind = lines[(at + 1) % len(lines)]
                    self.assertEqual(equation(number, lines[at], behind, draws, frame=program.frame,
                                              closing=closing), 0, (number, at))


class LaterTests(unittest.TestCase):
    def told(self, rows, coins):
        p, named = rows.p, dict(zip(COLUMNS, rows.columns))
        made = {name: [] for name in COLUMNS[29:]}
        pairs = ("da dv g1", "xa xv g2", "ya yv g3", "A1 V1 s1", "A2 V2 s2", "A3 V3 s3")
        last = {"g": 1, "s": 1, "R": 1}
        for at in range(len(rows.columns[0])):
            for words in pairs:
                address, worth, name = words.split()
                factor = coins[1] - named[address][at] - coins[0] * named[worth][at]
                last[name[0]] = last[name[0]] * factor % p
                made[name].append(last[name[0]])
            row = [column[at] for column in rows.columns] + [0] * 7
            last["R"] = last["R"] * (coins[15] - mix_of(row, coins)) % p
            made["R"].append(last["R"])
        return tuple(tuple(made[name]) for name in COLUMNS[29:])

    def test_of_any_rows(self):
        for p, count in ((193, 4), (257, 8), (769, 64), (2013265921, 16)):
            rows = Rows([numbers(k, count) for k in range(29)], p=p)
            coins = numbers(p, 16)
            made = later(rows, Draws(coins, p=p))
            self.assertEqual(made, self.told(rows, coins))
            self.assertEqual([type(made)] + [type(column) for column in made], [tuple] * 8)
            self.assertEqual(later(draws=Draws(coins, p=p), rows=rows), made)

    def test_of_runs(self):
        for _, rows in SAMPLES:
            coins = coins_of(len(rows), seed=4, p=rows.p)
            made = later(rows, Draws(coins[:16], p=rows.p))
            self.assertEqual(made, self.told(rows, coins))
            self.assertEqual(made[2][-1], made[5][-1])

    def test_the_example(self):
        made = later(SMALL_ROWS, Draws(coins_of(4)[:16], p=257))
        self.assertEqual((made[2][3], made[5][3], made[6][3]), (4, 4, 165))


class FailingTests(unittest.TestCase):
    def check(self, columns, coins, p, frame, closing):
        told = told_failing(columns, coins, p, frame, closing)
        draws = Draws(coins[:16], p=p)
        made = failing(columns, draws, frame=frame, closing=closing)
        self.assertEqual(made, told)
        self.assertEqual(made, sorted(made))
        self.assertIs(type(made), list)
        self.assertEqual([type(pair) for pair in made], [tuple] * len(made))
        self.assertEqual(failing(columns=tuple(columns), draws=draws, closing=closing, frame=frame), told)
        return made

    def check_first(self, rows, frame):
        told = told_failing(rows.columns, [0] * 16, rows.p, frame, 0, 26)
        made = failing_first(rows, frame=frame)
        self.assertEqual(made, told)
        self.assertEqual(made, sorted(made))
        self.assertIs(type(made), list)
        self.assertEqual([type(pair) for pair in made], [tuple] * len(made))
        self.assertEqual(failing_first(frame=frame, rows=rows), told)
        return made

    def test_none_for_runs(self):
        for program, rows in SAMPLES:
            self.assertEqual(self.check_first(rows, program.frame), [])
            for seed in range(3):
                coins = coins_of(len(rows), seed, rows.p)
                closing = program.closing(counts_of(program, rows), Draws(coins[:16], p=rows.p))
                self.assertEqual(self.check(columns_of(rows, coins), coins, rows.p, program.frame, closing), [])

    def test_each_one_fails_at_some_changed_run(self):
        seen = set()
        for program, rows in SAMPLES:
            coins = coins_of(len(rows), 5, rows.p)
            closing = program.closing(counts_of(program, rows), Draws(coins[:16], p=rows.p))
            for at in range(36):
                columns = [list(column) for column in columns_of(rows, coins)]
                for row in (0, len(rows) // 2, len(rows) - 1):
                    columns[at][row] += 1
                    seen.update(number for number, _ in self.check(columns, coins, rows.p, program.frame, closing))
                    columns[at][row] -= 1
        self.assertEqual(sorted(seen), list(range(1, 39)))

    def test_each_of_the_first_ones_fails_at_some_changed_run(self):
        seen = set()
        for program, rows in SAMPLES:
            for name in COLUMNS[:29]:
                for row in (0, 1, len(rows) // 2, len(rows) - 1):
                    changed = rows.changed(name, row, rows.column(name)[row] + 1)
                    seen.update(number for number, _ in self.check_first(changed, program.frame))
        self.assertEqual(sorted(seen), list(range(1, 27)))

    def test_wrong_frame_and_closing_number(self):
        coins = coins_of(4)
        columns = columns_of(SMALL_ROWS, coins)
        self.assertEqual(self.check(columns, coins, 257, 3, 165), [(19, 0)])
        self.assertEqual(self.check(columns, coins, 257, 2, 166), [(38, 3)])
        self.assertEqual(self.check(columns, coins, 257, 2, 165 + 257), [])
        self.assertEqual(self.check_first(SMALL_ROWS, 1), [(19, 0)])

    def test_the_example(self):
        rows = rows_of_run(SMALL, [], 257, 4).changed("imm", 2, 10)
        coins = coins_of(4)
        closing = SMALL_WRONG.closing([1, 1, 1, 1], Draws(coins[:16], p=257))
        self.assertEqual(closing, 68)
        self.assertEqual(self.check_first(rows, 2), [(6, 2)])
        self.assertEqual(self.check(columns_of(rows, coins), coins, 257, 2, closing), [(6, 2)])

    def test_at_columns_of_any_worths(self):
        for p, count in ((193, 4), (257, 8), (12289, 64)):
            columns = [numbers(k, count) for k in range(36)]
            self.check(columns, numbers(p, 16), p, 5, 7)
            self.assertEqual(columns, [numbers(k, count) for k in range(36)])
            self.check_first(Rows(columns[:29], p=p), 5)

    def test_step_and_end_kinds_count_only_their_rows(self):
        columns = [[0] * 4 for _ in range(36)]
        columns[0] = [1, 2, 3, 4]
        made = self.check(columns, [0] * 16, 257, 0, 0)
        self.assertEqual([pair for pair in made if pair[0] in (14, 17, 20)], [(17, 0), (20, 3)])
        columns[0] = [1, 1, 1, 1]
        made = self.check(columns, [0] * 16, 257, 0, 0)
        self.assertEqual([pair for pair in made if pair[0] == 14], [(14, 0), (14, 1), (14, 2)])


if __name__ == "__main__":
    unittest.main()
