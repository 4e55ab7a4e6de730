"""The error classes of the interface."""

import copy
import unittest

from ringpostfix import errors
import samples

RING_ERRORS = {
    "NotReady": ("row",),
    "NoBeginning": ("value",),
    "NoRows": (),
    "NoArity": ("value",),
    "TooLong": ("limit",),
    "LastToken": (),
    "OtherEffect": ("effect",),
    "NoProperty": ("name",),
    "BadWish": ("value",),
    "BadRing": ("error",),
    "NoBalance": ("balance",),
    "TooManyEdits": (),
    "NothingToUndo": (),
    "BadEdits": (),
    "BadEdit": ("index",),
    "Rejected": ("index",),
    "Busy": (),
    "BadText": ("index",),
}
LOOKUP_ERRORS = {"NoPlace": ("value",), "NoIndex": ("value",), "NoVersion": ("value",)}
FIELDS = {**RING_ERRORS, **LOOKUP_ERRORS}
# RingError is missing here: it is the base of the ring errors, so it is compared apart from them.
CLASSES = {name: getattr(errors, name) for name in FIELDS}


def made_errors(name):
    """Return a list of (error, fields) for the class, with fields of every kind."""
    made = CLASSES[name]
    if not FIELDS[name]:
        return [(made(), ())]
    return [(made(value), (value,)) for value in samples.any_values()]


class FieldsTest(unittest.TestCase):
    def test_fields_are_the_very_objects(self):
        for name, names in FIELDS.items():
            for error, values in made_errors(name):
                for field, value in zip(names, values):
                    with self.subTest(name=name, value=repr(value)[:60]):
                        self.assertIs(getattr(error, field), value)

    def test_fields_are_not_changed(self):
        for name, names in FIELDS.items():
            for error, values in made_errors(name):
                before = copy.deepcopy(values)
                str(error)
                repr(error)
                self.assertEqual(values, before)

    def test_fields_are_needed(self):
        for name, names in FIELDS.items():
            if names:
                with self.subTest(name=name):
                    with self.assertRaises(TypeError):
                        CLASSES[name]()
                    with self.assertRaises(TypeError):
                        CLASSES[name](1, 2)

    def test_shown_as_the_document_shows_them(self):
        self.assertEqual(repr(errors.NotReady((2, 0, 0))), "NotReady((2, 0, 0))")
        self.assertEqual(repr(errors.NoBalance(0)), "NoBalance(0)")
        self.assertEqual(repr(errors.OtherEffect((1, 1))), "OtherEffect((1, 1))")
        self.assertEqual(repr(errors.NoRows()), "NoRows()")

    def test_raised_and_caught_by_its_own_name(self):
        for name in FIELDS:
            for error, values in made_errors(name):
                with self.subTest(name=name):
                    with self.assertRaises(CLASSES[name]) as caught:
                        raise error
                    self.assertIs(caught.exception, error)


class FamilyTest(unittest.TestCase):
    def test_each_error_is_of_no_other_class_of_the_list(self):
        for name in FIELDS:
            for error, values in made_errors(name):
                for other, kind in CLASSES.items():
                    with self.subTest(name=name, other=other):
                        self.assertIs(isinstance(error, kind), other == name)

    def test_ring_errors_are_value_errors(self):
        for name in RING_ERRORS:
            for error, values in made_errors(name):
                with self.subTest(name=name):
                    self.assertIsInstance(error, errors.RingError)
                    self.assertIsInstance(error, ValueError)
                    self.assertNotIsInstance(error, LookupError)

    def test_lookup_errors_are_not_value_errors(self):
        for name in LOOKUP_ERRORS:
            for error, values in made_errors(name):
                with self.subTest(name=name):
                    self.assertIsInstance(error, LookupError)
                    self.assertNotIsInstance(error, (errors.RingError, ValueError, KeyError, IndexError))

    def test_ring_error_is_a_value_error(self):
        self.assertTrue(issubclass(errors.RingError, ValueError))
        self.assertFalse(issubclass(errors.RingError, LookupError))
        for name, kind in CLASSES.items():
            self.assertFalse(issubclass(errors.RingError, kind))


if __name__ == "__main__":
    unittest.main()
