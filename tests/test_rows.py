import unittest

from shownrun.bags import Bag
from shownrun.errors import BadShape, UnknownName
from shownrun.rows import COLUMNS, Rows
from tests.samples import CHOICE, FIELDS, SAMPLES, SMALL, SMALL_ROWS, counts_of
from tests.values import no_lists, numbers

NAMES = """pc fp ap add mul set same jz call ret here stop a b c imm da dv xa xv ya yv t A1 V1 A2 V2 A3 V3
    g1 g2 g3 s1 s2 s3 R""".split()


class RowsTests(unittest.TestCase):
    def test_columns(self):
        self.assertEqual(COLUMNS, tuple(NAMES))

    def test_attributes(self):
        for p, count in ((193, 4), (257, 16), (2013265921, 64)):
            columns = [numbers(k, count) for k in range(29)]
            rows = Rows(columns, p=p)
            told = tuple(tuple(n % p for n in column) for column in columns)
            columns[0][0] = 5
            columns.pop()
            self.assertEqual((rows.columns, rows.p, len(rows)), (told, p, count))
            self.assertEqual(repr(rows), "Rows({} rows)".format(count))
            self.assertEqual(rows.row(2), tuple(column[2] for column in told))
            for at, name in enumerate(NAMES[:29]):
                self.assertEqual(rows.column(name), told[at])

    def refused(self, value, what, count):
        with self.assertRaises(BadShape) as held:
            Rows(value, p=257)
        self.assertEqual((held.exception.what, held.exception.count), (what, count))

    def test_wrong_shapes(self):
        for value in no_lists():
            self.refused(value, "columns", None)
            self.refused([value] + [[0] * 4] * 28, "rows", None)
            self.refused([[0] * 4] * 28 + [value], "rows", None)
        for count in (0, 1, 28, 30, 36):
            self.refused([[0] * 4] * count, "columns", count)
        for count in (0, 1, 2, 3, 5, 12, 63, 65, 128):
            self.refused([[0] * count] * 29, "rows", count)
            self.refused([[0] * 4] * 5 + [[0] * count] * 24, "rows", count)
        self.refused([[0] * 4] + [[0] * 8] + [[0] * 16] * 27, "rows", 8)

    def test_unknown_names(self):
        for name in no_lists() + NAMES[29:] + ["g", "PC", ""]:
            for call in (lambda: SMALL_ROWS.column(name), lambda: SMALL_ROWS.changed(name, 0, 1)):
                with self.assertRaises(UnknownName) as held:
                    call()
                self.assertIs(held.exception.name, name)

    def test_changed(self):
        for at, name in enumerate(NAMES[:29]):
            rows = SMALL_ROWS.changed(name, 2, -1)
            told = [list(column) for column in SMALL_ROWS.columns]
            told[at][2] = 256
            self.assertEqual(rows.columns, tuple(tuple(column) for column in told))
            self.assertFalse(rows == SMALL_ROWS)
        self.assertEqual(SMALL_ROWS.changed(name="pc", at=1, worth=1), SMALL_ROWS)

    def test_of_the_example(self):
        rows = SMALL_ROWS
        self.assertEqual(rows.register_rows(), [(0, 3, 5), (1, 3, 5), (2, 3, 5), (3, 3, 5)])
        low, high = (3, 3), (4, 9)
        self.assertEqual(rows.triples(), [(low, low, low), (high, low, low), (high, high, high), (low, low, low)])
        self.assertEqual(rows.touch_pairs(), [low] * 3 + [high, low, low] + [high] * 3 + [low] * 3)
        self.assertEqual(rows.sorted_touches(), [low] * 8 + [high] * 4)
        self.assertEqual(rows.fields(), SMALL.fields([1, 1, 1, 1], p=257))
        self.assertEqual(rows.counted(SMALL), [1, 1, 1, 1])

    def test_of_runs(self):
        for program, rows in SAMPLES:
            self.assertEqual(rows.counted(program), counts_of(program, rows))
            self.assertEqual(rows.fields(), program.fields(rows.counted(program=program), p=rows.p))
            self.assertEqual(sorted(rows.touch_pairs()), rows.sorted_touches())
            named = dict(zip(NAMES, rows.columns))
            told = [tuple(named[name][at] for name in FIELDS) for at in range(len(rows))]
            self.assertEqual(rows.fields(), Bag(*told))
            for at in range(len(rows)):
                row = dict(zip(NAMES, rows.row(at)))
                self.assertEqual(rows.register_rows()[at], (row["pc"], row["fp"], row["ap"]))
                touches = ((row["da"], row["dv"]), (row["xa"], row["xv"]), (row["ya"], row["yv"]))
                self.assertEqual(rows.triples()[at], touches)
                self.assertEqual(tuple(rows.touch_pairs()[3 * at:3 * at + 3]), touches)
                self.assertEqual(rows.sorted_touches()[3 * at:3 * at + 3],
                                 [(row["A1"], row["V1"]), (row["A2"], row["V2"]), (row["A3"], row["V3"])])

    def test_rows_beyond_the_program_are_counted_at_line_0(self):
        rows = SMALL_ROWS.changed("pc", 1, 4).changed("pc", 2, -1)
        self.assertEqual(rows.counted(SMALL), [3, 0, 0, 1])
        self.assertEqual(rows.counted(CHOICE), [2, 0, 0, 1, 1] + [0] * 5)

    def test_equal(self):
        rows = Rows(SMALL_ROWS.columns, p=257)
        self.assertTrue(rows == SMALL_ROWS)
        self.assertFalse(Rows([[1] * 4] * 29, p=257) == Rows([[1] * 4] * 29, p=193))
        self.assertFalse(Rows([[1] * 4] * 29, p=257) == Rows([[1] * 4] * 28 + [[1, 1, 1, 2]], p=257))
        for value in no_lists() + [SMALL_ROWS.columns]:
            self.assertIs(rows == value, False)


if __name__ == "__main__":
    unittest.main()
