"""The interface's refusals."""

import unittest

from opencalls import errors
from things import LONG_NUMBERS, odd_things

CALL_ERRORS = {
    "NoRow": (),
    "NotKnown": ("name",),
    "NoGroup": (),
    "Full": (),
    "NoPlace": ("place",),
    "NoTurn": (),
    "NoName": ("name",),
    "Taken": ("name",),
    "Few": (),
    "NothingBack": (),
    "Long": (),
    "Busy": (),
    "NoDeed": ("number",),
    "NoOrder": (),
    "NotFree": (),
    "Known": ("name",),
    "NoText": (),
}
LOOKUP_ERRORS = {"NoHand": ("name",), "NoMoment": ("at",)}
ALL_ERRORS = {**CALL_ERRORS, **LOOKUP_ERRORS}


def class_of(name):
    return getattr(errors, name)


class BaseClasses(unittest.TestCase):
    def test_call_error_is_a_value_error(self):
        self.assertTrue(issubclass(errors.CallError, ValueError))
        self.assertFalse(issubclass(errors.CallError, LookupError))
        self.assertIsInstance(errors.CallError(), errors.CallError)

    def test_call_errors_stand_under_call_error(self):
        for name in CALL_ERRORS:
            with self.subTest(name):
                self.assertTrue(issubclass(class_of(name), errors.CallError))
                self.assertFalse(issubclass(class_of(name), LookupError))

    def test_lookup_errors_are_no_value_errors(self):
        for name in LOOKUP_ERRORS:
            with self.subTest(name):
                self.assertTrue(issubclass(class_of(name), LookupError))
                self.assertFalse(issubclass(class_of(name), (ValueError, KeyError, IndexError)))

    def test_none_stands_under_another(self):
        for one in ALL_ERRORS:
            for other in ALL_ERRORS:
                if one != other:
                    with self.subTest(one=one, other=other):
                        self.assertFalse(issubclass(class_of(one), class_of(other)))

    def test_classes_have_their_names(self):
        for name in ALL_ERRORS:
            self.assertEqual(class_of(name).__name__, name)


class Fields(unittest.TestCase):
    def test_fields_are_kept_as_handed_in(self):
        for name, fields in ALL_ERRORS.items():
            for thing in (*odd_things(), "ann", 0, -1, *LONG_NUMBERS):
                with self.subTest(name, thing=repr(thing)[:60]):
                    handed = tuple(thing for _ in fields)
                    before = repr(thing)
                    made = class_of(name)(*handed)
                    self.assertEqual(tuple(vars(made)), fields)
                    for field in fields:
                        self.assertIs(getattr(made, field), thing)
                    self.assertEqual(repr(thing), before)

    def test_each_is_raised_and_caught_by_its_base(self):
        for name, fields in ALL_ERRORS.items():
            base = errors.CallError if name in CALL_ERRORS else LookupError
            with self.subTest(name):
                with self.assertRaises(base) as caught:
                    raise class_of(name)(*["zoe" for _ in fields])
                self.assertIs(type(caught.exception), class_of(name))
                for field in fields:
                    self.assertEqual(getattr(caught.exception, field), "zoe")

    def test_two_of_a_class_keep_their_own_fields(self):
        for name, fields in ALL_ERRORS.items():
            if fields:
                with self.subTest(name):
                    one, other = class_of(name)("ann"), class_of(name)("bob")
                    self.assertEqual(getattr(one, fields[0]), "ann")
                    self.assertEqual(getattr(other, fields[0]), "bob")

    def test_fields_are_needed(self):
        for name, fields in ALL_ERRORS.items():
            if fields:
                with self.subTest(name), self.assertRaises(TypeError):
                    class_of(name)()


if __name__ == "__main__":
    unittest.main()
