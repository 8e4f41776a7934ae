"""The refusals of mapdye.errors: their places, their fields, what they are made of."""

import unittest

from mapdye import errors
from mapdye.errors import MapError, NoWeb

FIELDS = {
    "TooMany": (),
    "TooSmall": (),
    "NoWeb": ("fault",),
    "NotPlane": ("counted",),
    "NoText": (),
    "NoCorner": (),
    "NoRing": (),
    "Alike": ("one", "other"),
    "TooFew": ("point",),
    "NotFree": ("point",),
    "NotFilled": ("land",),
    "Odd": ("point",),
    "Bridge": ("tie",),
    "Shared": ("one", "other"),
}

VALUES = {
    "fault": ("lone", 3, 5),
    "counted": (4, 6, 2),
    "one": 7,
    "other": 2,
    "point": 9,
    "land": 11,
    "tie": (1, 8),
}


def made(name):
    return getattr(errors, name)(*[VALUES[field] for field in FIELDS[name]])


class Places(unittest.TestCase):
    def test_map_error_is_a_value_error(self):
        self.assertTrue(issubclass(MapError, ValueError))
        self.assertEqual(str(MapError("why")), "why")
        self.assertIsInstance(MapError(), ValueError)

    def test_there_are_fourteen(self):
        self.assertEqual(len(FIELDS), 14)
        under = [
            name for name, thing in vars(errors).items()
            if isinstance(thing, type) and issubclass(thing, MapError) and thing != MapError
        ]
        self.assertEqual(sorted(under), sorted(FIELDS))

    def test_each_is_under_map_error_and_under_no_other(self):
        for name in FIELDS:
            with self.subTest(name):
                kind = getattr(errors, name)
                self.assertTrue(issubclass(kind, MapError))
                self.assertTrue(issubclass(kind, ValueError))
                for other in FIELDS:
                    self.assertEqual(issubclass(kind, getattr(errors, other)), name == other)

    def test_each_is_caught_as_itself_as_map_error_and_as_value_error(self):
        for name in FIELDS:
            for kind in (getattr(errors, name), MapError, ValueError):
                with self.subTest(name=name, kind=kind):
                    with self.assertRaises(kind):
                        raise made(name)


class Fields(unittest.TestCase):
    def test_the_fields_are_what_it_is_made_of(self):
        for name, fields in FIELDS.items():
            with self.subTest(name):
                refusal = made(name)
                self.assertEqual(vars(refusal), {field: VALUES[field] for field in fields})

    def test_fields_belong_to_each_object(self):
        first, second = NoWeb(("self", 1, 1)), NoWeb(("self", 2, 2))
        self.assertEqual(first.fault, ("self", 1, 1))
        self.assertEqual(second.fault, ("self", 2, 2))

    def test_those_with_fields_are_made_of_just_these(self):
        for name, fields in FIELDS.items():
            if fields:
                kind = getattr(errors, name)
                values = [VALUES[field] for field in fields]
                for wrong in ([], values + [0]):
                    with self.subTest(name=name, wrong=wrong):
                        self.assertRaises(TypeError, kind, *wrong)

    def test_those_without_fields_are_made_of_nothing_or_of_a_text(self):
        for name, fields in FIELDS.items():
            if not fields:
                with self.subTest(name):
                    kind = getattr(errors, name)
                    self.assertIsInstance(kind(), kind)
                    self.assertEqual(str(kind("some words")), "some words")

    def test_each_can_be_shown(self):
        for name in FIELDS:
            self.assertIsInstance(str(made(name)), str)
        self.assertIsInstance(str(NoWeb(("alien", 0, 10 ** 5000))), str)


class FaultsBelongToTheRefusal(unittest.TestCase):
    def test_a_list_in_the_fault_is_not_kept(self):
        for wrap in (lambda held: held, lambda held: [held], lambda held: (1, held), lambda held: {"a": held}):
            held = [1, [2]]
            refusal = NoWeb(("alien", 0, wrap(held)))
            held.append(3)
            held[1].append(4)
            self.assertEqual(refusal.fault, ("alien", 0, wrap([1, [2]])))

    def test_a_list_that_holds_itself(self):
        for many in (1, 2, 30):
            held = []
            held.extend([held] * many)
            fault = NoWeb(("alien", 0, held)).fault
            self.assertEqual(fault[:2], ("alien", 0))
            self.assertEqual(len(fault[2]), many)

    def test_a_list_nested_very_deep(self):
        deep = []
        for _ in range(20000):
            deep = [deep]
        self.assertEqual(len(NoWeb(("alien", 0, deep)).fault[2]), 1)
        # Taken apart level by level: Python need not let go of such a thing at once.
        while deep:
            deep = deep.pop()


if __name__ == "__main__":
    unittest.main()
