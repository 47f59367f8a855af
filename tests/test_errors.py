import unittest

from shownrun import errors
from shownrun.errors import (BadBook, BadLine, BadPrime, BadProgram, BadShape, Broken, InvalidError, NotNear,
                             NotWaiting, StateError, TooMany, UnknownError, UnknownName)
from tests.values import no_lists, no_numbers

CLASSES = [(BadProgram, InvalidError, ("line", "why")), (BadLine, InvalidError, ("field",)),
           (BadPrime, InvalidError, ("p", "rows")), (BadShape, InvalidError, ("what", "count")),
           (BadBook, InvalidError, ("line",)), (TooMany, InvalidError, ("what", "most")),
           (NotNear, UnknownError, ("e",)), (UnknownName, UnknownError, ("name",)),
           (Broken, StateError, ("line", "why")), (NotWaiting, StateError, ("what",))]
BASES = [(InvalidError, ValueError), (UnknownError, LookupError), (StateError, RuntimeError)]


class ErrorTests(unittest.TestCase):
    def check(self, error, names, values):
        self.assertEqual(sorted(vars(error)), sorted(names))
        for name, value in zip(names, values):
            self.assertIs(getattr(error, name), value)

    def test_arguments_by_position_and_by_name(self):
        for value in no_lists() + no_numbers() + [[1, [2]], (3, [4])]:
            for kind, _, names in CLASSES:
                values = [value, "other"][:len(names)]
                self.check(kind(*values), names, values)
                self.check(kind(**dict(zip(names, values))), names, values)
                self.check(kind(values[0], **dict(zip(names[1:], values[1:]))), names, values)
                values = ["other", value][-len(names):]
                self.check(kind(*values), names, values)

    def test_a_list_is_kept_as_it_is(self):
        passed = [1, 2]
        error = BadShape("looks", passed)
        passed.append(3)
        self.assertIs(error.count, passed)
        self.assertEqual(error.count, [1, 2, 3])

    def test_errors_are_apart_from_one_another(self):
        one, other = TooMany("lines", 80), TooMany("rows", 64)
        self.assertEqual((one.what, one.most, other.what, other.most), ("lines", 80, "rows", 64))

    def test_each_class_has_just_its_base(self):
        for kind, base, _ in CLASSES:
            self.assertEqual(kind.__bases__, (base,))
            for another in [row[0] for row in CLASSES] + [row[0] for row in BASES]:
                self.assertEqual(issubclass(kind, another), another in (kind, base), (kind, another))

    def test_the_bases(self):
        for base, builtin in BASES:
            self.assertEqual(base.__bases__, (builtin,))
            for another, _ in BASES:
                self.assertEqual(issubclass(base, another), another is base)

    def test_caught_as_base_and_as_builtin(self):
        for kind, base, names in CLASSES:
            for caught in (kind, base, dict(BASES)[base], Exception):
                with self.assertRaises(caught) as held:
                    raise kind(*names)
                self.assertIs(type(held.exception), kind)

    def test_names_of_the_module(self):
        for kind in [row[0] for row in CLASSES] + [row[0] for row in BASES]:
            self.assertIs(getattr(errors, kind.__name__), kind)
            self.assertEqual(kind.__module__, "shownrun.errors")


if __name__ == "__main__":
    unittest.main()
