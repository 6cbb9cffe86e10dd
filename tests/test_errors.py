"""[9] and the interface: the errors, their families and their fields."""

import unittest

from firstfault import errors
from firstfault.errors import FaultError, PaperError, ProgramError, ServiceError, TextError

FAMILIES = (PaperError, ProgramError, ServiceError, TextError)
FIELDS = {
    "InvalidPaper": (PaperError, ("word", "at")),
    "UnfitPart": (ProgramError, ("path",)),
    "UnknownKey": (ProgramError, ("key",)),
    "NoCheck": (ProgramError, ("key",)),
    "InvalidState": (ProgramError, ("state",)),
    "NotUsable": (ProgramError, ("word", "at")),
    "InvalidEvent": (ServiceError, ("event", "reason")),
    "NothingToUndo": (ServiceError, ("steps",)),
    "InvalidText": (TextError, ("line", "field")),
    "InvalidRow": (TextError, ("row",)),
}


class Touchy:
    """An object that must not be looked at."""

    def fail(self, *rest):
        raise AssertionError("looked at")

    __eq__ = __ne__ = __lt__ = __len__ = __bool__ = __iter__ = __repr__ = __str__ = __getitem__ = __int__ = fail
    __hash__ = None


class ErrorsTest(unittest.TestCase):
    def test_families(self):
        self.assertIs(FaultError.__bases__[0], ValueError)
        self.assertEqual(len(FaultError.__bases__), 1)
        for family in FAMILIES:
            self.assertEqual(family.__bases__, (FaultError,))

    def test_each_error_stands_right_under_its_family(self):
        for name, (family, _) in FIELDS.items():
            self.assertEqual(getattr(errors, name).__bases__, (family,), name)

    def test_there_are_no_other_errors(self):
        found = [name for name, thing in vars(errors).items() if isinstance(thing, type)]
        self.assertEqual(sorted(found), sorted(list(FIELDS) + ["FaultError"] + [family.__name__ for family in FAMILIES]))

    def test_the_very_objects_are_kept(self):
        for name, (_, fields) in FIELDS.items():
            for make in (list, Touchy, lambda: "shape", lambda: None, lambda: True, lambda: [[1], (2,)]):
                given = [make() for _ in fields]
                by_place = getattr(errors, name)(*given)
                by_name = getattr(errors, name)(**dict(zip(fields, given)))
                for error in (by_place, by_name):
                    for field, thing in zip(fields, given):
                        self.assertIs(getattr(error, field), thing, (name, field))

    def test_exactly_the_fields_are_taken(self):
        for name, (_, fields) in FIELDS.items():
            made = getattr(errors, name)
            for many in (len(fields) - 1, len(fields) + 1):
                with self.assertRaises(TypeError):
                    made(*[0] * many)
            with self.assertRaises(TypeError):
                made(**dict.fromkeys(fields, 0), other=0)
            self.assertEqual(sorted(vars(made(*[0] * len(fields)))), sorted(fields))

    def test_each_is_caught_by_its_class_its_family_and_the_base_alone(self):
        for name, (family, fields) in FIELDS.items():
            error = getattr(errors, name)(*[0] * len(fields))
            for kind in (getattr(errors, name), family, FaultError, ValueError):
                with self.assertRaises(kind):
                    raise error
            for other in FAMILIES:
                self.assertIs(isinstance(error, other), other is family)
            for other in FIELDS:
                self.assertIs(isinstance(error, getattr(errors, other)), other == name)


if __name__ == "__main__":
    unittest.main()
