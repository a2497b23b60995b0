"""Point [5]: the errors, their fields, and what is derived from what."""

import unittest

from runturns import errors
from tests.helpers import any_objects, names_of_parameters

WITH_FIELD = """InvalidBook InvalidBooks InvalidCatalogue InvalidCatalogues InvalidRow InvalidShelf InvalidShelves
    InvalidRun InvalidKnot InvalidKind InvalidCore InvalidTurns InvalidLot InvalidFaces InvalidPrices InvalidArms
    InvalidCount InvalidNames InvalidChange InvalidChanges InvalidHall InvalidSpot InvalidScript InvalidText InvalidLog
    Unlike Apart Refused""".split()
WITHOUT = ["NothingToUndo", "NothingToRedo"]


class Errors(unittest.TestCase):
    def test_each_class_is_defined_in_the_module(self):
        for name in ["ShelfError"] + WITH_FIELD + WITHOUT:
            self.assertEqual(getattr(errors, name).__module__, "runturns.errors", name)

    def test_what_is_derived_from_what(self):
        self.assertTrue(issubclass(errors.ShelfError, ValueError))
        for name in WITH_FIELD + WITHOUT:
            self.assertTrue(issubclass(getattr(errors, name), errors.ShelfError), name)
            self.assertFalse(issubclass(errors.ShelfError, getattr(errors, name)), name)
            for other in WITH_FIELD + WITHOUT:
                derived = issubclass(getattr(errors, name), getattr(errors, other))
                self.assertEqual(derived, name == other, (name, other))

    def test_fields_hold_the_very_object(self):
        for name in WITH_FIELD:
            made = getattr(errors, name)
            self.assertEqual(names_of_parameters(made), ["value"], name)
            for value in any_objects():
                self.assertIs(made(value).value, value)
                self.assertIs(made(value=value).value, value)

    def test_field_is_none_without_an_argument(self):
        for name in WITH_FIELD:
            self.assertIsNone(getattr(errors, name)().value, name)

    def test_classes_without_a_field(self):
        for name in ["ShelfError"] + WITHOUT:
            self.assertFalse(hasattr(getattr(errors, name)(), "value"), name)

    def test_each_can_be_raised_and_caught(self):
        for name in ["ShelfError"] + WITH_FIELD + WITHOUT:
            for caught in (getattr(errors, name), errors.ShelfError, ValueError):
                with self.assertRaises(caught):
                    raise getattr(errors, name)()
