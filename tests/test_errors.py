"""All classes of drawnmore.errors."""

import copy
import inspect
import unittest

from drawnmore import errors
from drawnmore.rows import Row
from tests.helper import no_integers, no_numbers, no_rows

# Each base class with the Python class under it, and with the classes under it.
BASES = {
    "WrongValue": (ValueError, {
        "InvalidText": "given", "InvalidName": "given", "InvalidIndex": "given",
        "InvalidNumber": "given", "InvalidChance": "given", "InvalidWish": "given",
        "NotRow": "given", "InvalidCounts": "index", "InvalidRows": "index",
        "InvalidUrns": "index", "InvalidChanges": "index", "InvalidWishes": "index",
    }),
    "WrongName": (LookupError, {"UnknownName": "given", "InUse": "index"}),
    "NotPossible": (ArithmeticError, {
        "NoUrns": None, "NoChance": None, "OtherDraws": "given", "NoMore": None,
        "NothingToUndo": None, "Broken": "index",
    }),
}

LISTED = [
    (getattr(errors, name), getattr(errors, base), own, attribute)
    for base, (own, under) in BASES.items()
    for name, attribute in under.items()
]

VALUES = [*no_integers(), *no_numbers(0, 0), *no_rows(), 0, 1, 2, 10 ** 5000, Row((1, 10 ** 999))]


class Errors(unittest.TestCase):
    def test_no_class_more_and_none_less(self):
        listed = {*BASES, *[error.__name__ for error, _, _, _ in LISTED]}
        self.assertEqual(listed, {name for name, _ in inspect.getmembers(errors, inspect.isclass)})

    def test_made_by_position(self):
        for error, _, _, attribute in LISTED:
            for value in VALUES if attribute else []:
                self.assertIs(getattr(error(value), attribute), value, error)

    def test_made_by_name(self):
        for error, _, _, attribute in LISTED:
            for value in VALUES if attribute else []:
                self.assertIs(getattr(error(**{attribute: value}), attribute), value, error)

    def test_made_without_attributes(self):
        for error, _, _, attribute in LISTED:
            if attribute is None:
                self.assertEqual(vars(error()), {}, error)

    def test_no_other_attribute(self):
        for error, _, _, attribute in LISTED:
            if attribute:
                self.assertEqual(list(vars(error(1))), [attribute], error)

    def test_an_attribute_is_asked_for(self):
        for error, _, _, attribute in LISTED:
            if attribute:
                self.assertRaises(TypeError, error)

    def test_classes(self):
        of_package = [cls for _, cls in inspect.getmembers(errors, inspect.isclass)]
        for error, base, own, attribute in LISTED:
            made = error(1) if attribute else error()
            self.assertEqual(error.__bases__, (base,))
            self.assertEqual(base.__bases__, (own,))
            self.assertEqual([cls for cls in of_package if isinstance(made, cls)],
                             sorted([error, base], key=lambda cls: cls.__name__))

    def test_bases_can_be_made(self):
        for base, (own, _) in BASES.items():
            made = getattr(errors, base)()
            self.assertIsInstance(made, own)
            self.assertEqual(made.args, ())

    def test_only_their_own_python_class(self):
        pythons = [ValueError, LookupError, ArithmeticError, TypeError, KeyError, IndexError]
        for error, _, own, attribute in LISTED:
            made = error(1) if attribute else error()
            self.assertEqual([cls for cls in pythons if isinstance(made, cls)], [own], error)

    def test_caught_by_their_base(self):
        for error, base, own, attribute in LISTED:
            for caught in (error, base, own):
                with self.assertRaises(caught):
                    raise error("x") if attribute else error()

    def test_never_equal(self):
        self.assertNotEqual(errors.NotRow(1), errors.NotRow(1))
        self.assertNotEqual(errors.NoUrns(), errors.NoUrns())

    def test_a_message_for_any_value(self):
        for error, _, _, attribute in LISTED:
            for value in VALUES if attribute else []:
                self.assertIsInstance(str(error(value)), str)
                self.assertTrue(str(error(value)))

    def test_copies_keep_the_attribute(self):
        for error, _, _, attribute in LISTED:
            if attribute:
                self.assertEqual(getattr(copy.copy(error((1, 2))), attribute), (1, 2), error)


if __name__ == "__main__":
    unittest.main()
