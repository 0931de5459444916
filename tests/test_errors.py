"""Promise [1], stage 1: the errors."""

import unittest

from halfbits import errors
from halfbits.errors import BitError

NAMES = (
    "NoWord NoNet NoTable NoTelling NoSum NoDemand NoPicks NoCount NoKind NoPlan NoCode NoRow NoMatch NoGate "
    "NoBoard NoDeed NoDrop NoUndo NoThings NoLets NotThere NoMachine TooGreat"
).split()


class ErrorsTest(unittest.TestCase):
    def test_base_is_directly_derived_from_value_error(self):
        self.assertEqual(BitError.__bases__, (ValueError,))

    def test_each_is_directly_derived_from_the_base(self):
        self.assertEqual(len(NAMES), 23)
        for name in NAMES:
            with self.subTest(name=name):
                self.assertEqual(getattr(errors, name).__bases__, (BitError,))

    def test_each_tells_its_text(self):
        for name in ["BitError", *NAMES]:
            for text in ("what went wrong", "", "0?1"):
                with self.subTest(name=name, text=text):
                    self.assertEqual(str(getattr(errors, name)(text)), text)

    def test_each_is_caught_by_its_own_class_and_the_bases_alone(self):
        for name in NAMES:
            others = [getattr(errors, other) for other in NAMES if other != name]
            for caught in (getattr(errors, name), BitError, ValueError):
                with self.subTest(name=name, caught=caught), self.assertRaises(caught) as told:
                    raise getattr(errors, name)("text")
                self.assertNotIsInstance(told.exception, tuple(others))

    def test_each_is_defined_in_the_module_under_its_name(self):
        for name in ["BitError", *NAMES]:
            self.assertEqual((getattr(errors, name).__module__, getattr(errors, name).__name__),
                             ("halfbits.errors", name))


if __name__ == "__main__":
    unittest.main()
