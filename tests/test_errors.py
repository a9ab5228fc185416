"""The errors: their bases, their attributes and their codes."""

import unittest

from soleheld import errors

COUNT_ERRORS = {
    "InvalidName": ("value",),
    "InvalidNumber": ("value",),
    "InvalidNames": ("at",),
    "InvalidLot": (),
    "InvalidRoll": ("at",),
    "InvalidEntry": ("at",),
    "InvalidText": ("line", "why"),
    "BadRule": ("line", "what"),
    "Spoiled": ("ballot", "why"),
    "BadSizes": ("number",),
    "BadStaff": ("bundle",),
    "TooMany": ("what", "most"),
}
OTHERS = {"NoName": ("Missing", ("word",)), "Ended": ("TooLate", ()), "Closed": ("TooLate", ("place",))}
GROUNDS = {"CountError": ValueError, "Missing": LookupError, "TooLate": RuntimeError}
ALL = {name: ("CountError", fields) for name, fields in COUNT_ERRORS.items()} | OTHERS
VALUES = (None, True, False, 0, -3, 10 ** 300, "", "a word\n", (), (1, (2, "x")), [], [1, [2, [3]]], errors.Ended())


def class_of(name):
    return getattr(errors, name)


def values_for(fields, shift):
    return [VALUES[(shift + at) % len(VALUES)] for at in range(len(fields))]


class Bases(unittest.TestCase):
    def test_the_grounds_have_their_own_base(self):
        for name, ground in GROUNDS.items():
            self.assertEqual(class_of(name).__bases__, (ground,))

    def test_each_error_has_its_direct_base(self):
        for name, (base, _) in ALL.items():
            self.assertEqual(class_of(name).__bases__, (class_of(base),), name)

    def test_no_other_class_is_a_subclass_of_another(self):
        for name, (base, _) in ALL.items():
            for other in [*ALL, *GROUNDS]:
                if other not in (name, base):
                    self.assertFalse(issubclass(class_of(name), class_of(other)), (name, other))
        for name in GROUNDS:
            for other in [*ALL, *GROUNDS]:
                if other != name:
                    self.assertFalse(issubclass(class_of(name), class_of(other)), (name, other))

    def test_each_error_is_caught_by_its_base(self):
        for name, (base, fields) in ALL.items():
            for ground in (class_of(base), GROUNDS[base]):
                try:
                    raise class_of(name)(*values_for(fields, 3))
                except ground as caught:
                    self.assertEqual(caught.code, name)

    def test_the_grounds_have_no_code(self):
        for name in GROUNDS:
            self.assertFalse(hasattr(class_of(name)(), "code"))


class Attributes(unittest.TestCase):
    def test_by_place_and_by_name(self):
        for name, (_, fields) in ALL.items():
            for shift in range(len(VALUES)):
                values = values_for(fields, shift)
                by_name = dict(zip(fields, values))
                for error in (class_of(name)(*values), class_of(name)(**by_name)):
                    self.assertEqual(error.code, name)
                    for field, value in by_name.items():
                        self.assertEqual(getattr(error, field), value)
                        self.assertIs(type(getattr(error, field)), type(value))

    def test_parameters_are_needed_and_no_more_are_taken(self):
        for name, (_, fields) in ALL.items():
            with self.assertRaises(TypeError):
                class_of(name)(*fields, "more")
            if fields:
                with self.assertRaises(TypeError):
                    class_of(name)()

    def test_a_second_error_changes_nothing_in_the_first(self):
        for name, (_, fields) in ALL.items():
            first = class_of(name)(*values_for(fields, 4))
            class_of(name)(*values_for(fields, 7))
            self.assertEqual([getattr(first, field) for field in fields], values_for(fields, 4))
            self.assertEqual(first.code, name)

    def test_lists_are_copied_also_within(self):
        inner = [1, 2]
        value = [inner, (inner, 3)]
        error = errors.InvalidNumber(value)
        inner.append(9)
        value.append(8)
        self.assertEqual(error.value, [[1, 2], ([1, 2], 3)])
