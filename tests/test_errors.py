"""The refusals of mapdye.errors: their places, their fields, what they are made of."""

import unittest

from mapdye import errors
from mapdye.errors import MapError, NoWeb

FIELDS = {
    "TooMany": (),
    "TooSmall": (),
    "NoWeb": ("fault",),
    "NotPlane": ("counted",),
    "NoText": (),
    "NoCorner": (),
    "NoRing": (),
    "Alike": ("one", "other"),
    "TooFew": ("point",),
    "NotFree": ("point",),
    "NotFilled": ("land",),
    "Odd": ("point",),
    "Bridge": ("tie",),
    "Shared": ("one", "other"),
}

VALUES = {
    "fault": ("lone", 3, 5),
    "counted": (4, 6, 2),
    "one": 7,
    "other": 2,
    "point": 9,
    "land": 11,
    "tie": (1, 8),
}


def made(name):
    return getattr(errors, name)(*[VALUES[field] for field in FIELDS[name]])


class Places(unittest.TestCase):
    def test_map_error_is_a_value_error(self):
        self.assertTrue(issubclass(MapError, ValueError))
        self.assertEqual(str(MapError("why")), "why")
        self.assertIsInstance(MapError(), ValueError)

    def test_there_are_fourteen(self):
        self.assertEqual(len(FIELDS), 14)
        under = [
            name for name, thing in vars(errors).items()
            if isinstance(thing, type) and issubclass(thing, MapError) and thing != MapError
        ]
        self.assertEqual(sorted(under), sorted(FIELDS))

    def test_each_is_under_map_error_and_under_no_other(self):
        for name in FIELDS:
            with self.subTest(name):
                kind = getattr(errors, name)
                self.assertTrue(issubclass(kind, MapError))
                self.assertTrue(issubclass(kind, ValueError))
                for other in FIELDS:
                    self.assertEqual(issubclass(kind, getattr(errors, other)), name == other)

    def test_each_is_caught_as_itself_as_map_error_and_as_value_error(self):
        for name in FIELDS:
            for kind in (getattr(errors, name), MapError, ValueError):
                with self.subTest(name=name, kind=kind):
                    with self.assertRaises(kind):
                        raise made(name)


class Fields(unittest.TestCase):
    def test_the_fields_are_what_it_is_made_of(self):
        for name, fields in FIELDS.items():
            with self.subTest(name):
                refusal = made(name)
                self.assertEqual(vars(refusal), {field: VALUES[field] for field in fields})

    def test_fields_belong_to_each_object(self):
        first, second = NoWeb(("self", 1, 1)), NoWeb(("self", 2, 2))
        self.assertEqual(first.fault, ("self", 1, 1))
        self.assertEqual(second.fault, ("self", 2, 2))

    def test_those_with_fields_are_made_of_just_these(self):
        for name, fields in FIELDS.items():
            if fields:
                kind = getattr(errors, name)
                values = [VALUES[field] for field in fields]
                for wrong in ([], values + [0]):
                    with self.subTest(name=name, wrong=wrong):
                        self.assertRaises(TypeError, kind, *wrong)

    def test_those_without_fields_are_made_of_nothing_or_of_a_text(self):
        for name, fields in FIELDS.items():
            if not fields:
                with self.subTest(name):
                    kind = getattr(errors, name)
                    self.assertIsInstance(kind(), kind)
                    self.assertEqual(str(kind("some words")), "some words")

    def test_each_can_be_shown(self):
        for name in FIELDS:
            self.assertIsInstance(str(made(name)), str)
        self.assertIsInstance(str(NoWeb(("alien", 0, 10 ** 5000))), str)


def own_throughout(test, told, handed):
    """Whether no list, tuple with lists or dict of what is told is one of what was handed in, place by place."""
    waiting = [(told, handed)]
    while waiting:
        own, given = waiting.pop()
        test.assertIs(type(own), type(given))
        if isinstance(own, (list, tuple, dict)):
            test.assertEqual(len(own), len(given))
            if not isinstance(own, tuple):
                test.assertIsNot(own, given)
            places = own if isinstance(own, dict) else range(len(own))
            waiting.extend((own[place], given[place]) for place in places)
        else:
            test.assertIs(own, given)


class FaultsBelongToTheRefusal(unittest.TestCase):
    def test_a_list_in_the_fault_is_not_kept(self):
        for wrap in (lambda held: held, lambda held: [held], lambda held: (1, held), lambda held: {"a": held}):
            held = [1, [2]]
            refusal = NoWeb(("alien", 0, wrap(held)))
            held.append(3)
            held[1].append(4)
            self.assertEqual(refusal.fault, ("alien", 0, wrap([1, [2]])))

    def test_many_lists_at_each_depth(self):
        for many in (1, 199, 200, 201, 300, 5000, 200000):
            own_throughout(self, *self.told_and_handed([[k] for k in range(many)]))
            own_throughout(self, *self.told_and_handed({k: [k] for k in range(many)}))
            own_throughout(self, *self.told_and_handed(tuple([k] for k in range(many))))
            own_throughout(self, *self.told_and_handed([(k, {"a": ([k], k)}) for k in range(many // 3)]))
        own_throughout(self, *self.told_and_handed([[[[[k] * 3 for k in range(9)] for _ in range(9)]] * 9] * 9))

    def told_and_handed(self, alien):
        fault = NoWeb(("alien", 0, alien)).fault
        self.assertEqual(fault[:2], ("alien", 0))
        self.assertIs(type(fault), tuple)
        return fault[2], alien

    def test_lists_within_tuples_within_lists(self):
        inner = [5]
        alien = [(1, (2, [(inner, {"k": (inner,)})]))]
        told, handed = self.told_and_handed(alien)
        inner.append(6)
        self.assertEqual(told, [(1, (2, [([5], {"k": ([5],)})]))])
        told[0][1][1][0][0].append(7)
        self.assertEqual(handed, [(1, (2, [([5, 6], {"k": ([5, 6],)})]))])

    def test_a_list_that_holds_itself(self):
        for many in (1, 2, 30, 1000):
            held = []
            held.extend([held] * many)
            told, handed = self.told_and_handed(held)
            self.assertEqual(len(told), many)
            self.assertEqual(len(handed), many)
            self.none_of_it(told, handed)

    def test_others_that_hold_themselves(self):
        within = {}
        within["a"] = within
        told, handed = self.told_and_handed(within)
        self.assertEqual(list(told), ["a"])
        self.none_of_it(told, handed)
        within = []
        within.append((within, 1))
        told, handed = self.told_and_handed(within)
        self.assertEqual(told[0][1], 1)
        self.none_of_it(told, handed)

    def none_of_it(self, told, handed):
        """Nowhere in what is told is what was handed in, which holds itself."""
        waiting = [told]
        while waiting:
            held = waiting.pop()
            self.assertIsNot(held, handed)
            if isinstance(held, (list, tuple)):
                waiting.extend(held)
            elif isinstance(held, dict):
                waiting.extend(held.values())

    def test_lists_held_many_times_over(self):
        # Gone through one by one these would be more than anybody can.
        for wrap in (lambda held: [held, held], lambda held: (held, held), lambda held: {1: held, 2: held}):
            held = []
            for _ in range(80):
                held = wrap(held)
            told, handed = self.told_and_handed(held)
            self.assertIs(type(told), type(handed))
            self.assertEqual(len(told), 2)

    def test_a_list_nested_very_deep(self):
        for wrap in (lambda held: [held], lambda held: (held,), lambda held: {0: held}):
            deep = bottom = [[]]
            for _ in range(20000):
                deep = wrap(deep)
            told, handed = self.told_and_handed(deep)
            bottom[0].append(7)
            for _ in range(20000):
                told = told[0]
            self.assertEqual(told, [[]])


if __name__ == "__main__":
    unittest.main()
