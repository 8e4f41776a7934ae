"""Webs: what is refused, and what a web tells (points 2, 5 and 6)."""

import itertools
import unittest

from mapdye.errors import NoWeb, TooMany
from mapdye.webs import Web
from samples import K4_PLANE as K4
from samples import cycle, path


def fault_of(turns):
    """The fault with which the turns are refused, or None if they are a web."""
    try:
        Web(turns)
    except NoWeb as refusal:
        return refusal.fault
    return None


class HowManyPoints(unittest.TestCase):
    def test_one_to_fourteen_are_taken(self):
        self.assertEqual(Web([[]]).many(), 1)
        for many in range(2, 15):
            self.assertEqual(Web(path(many)).many(), many)
            if many > 2:
                self.assertEqual(Web(cycle(many)).many(), many)

    def test_none_and_more_are_refused(self):
        self.assertRaises(TooMany, Web, [])
        for many in (15, 16, 40):
            self.assertRaises(TooMany, Web, path(many))
            self.assertRaises(TooMany, Web, cycle(many))

    def test_too_many_goes_ahead_of_any_fault(self):
        for row in (["x"], [0, 0], [1], [True], []):
            self.assertRaises(TooMany, Web, [list(row) for _ in range(15)])

    def test_fourteen_points_with_a_fault(self):
        turns = path(14)
        turns[13].append(14)
        self.assertEqual(fault_of(turns), ("alien", 13, 14))


class Aliens(unittest.TestCase):
    def alien(self, thing):
        fault = fault_of([[1], [0, thing]])
        self.assertEqual(fault[:2], ("alien", 1))
        self.assertEqual(len(fault), 3)
        self.assertEqual(fault[2], thing)
        self.assertIs(type(fault), tuple)
        self.assertIs(type(fault[2]), type(thing))

    def test_numbers_that_are_no_points(self):
        for thing in (2, 3, -1, -2, 14, 10 ** 60, -(10 ** 60), 10 ** 5000):
            self.alien(thing)

    def test_true_and_false_are_no_points(self):
        self.assertIs(fault_of([[True], [0]])[2], True)
        self.assertEqual(fault_of([[True], [0]])[:2], ("alien", 0))
        self.assertIs(fault_of([[1], [False]])[2], False)
        self.assertEqual(fault_of([[1], [False]])[:2], ("alien", 1))
        self.assertIs(fault_of([[False]])[2], False)
        # Behind the same number as a whole one it is alien as well, not twice.
        self.assertIs(fault_of([[1, True], [0]])[2], True)

    def test_things_that_are_no_numbers(self):
        things = [
            "", "0", "a", "b" * 1000, None, Ellipsis, b"", b"0", (), (0,), (0, (1, None)), [], [0], [[0], [1]],
            {}, {0: 1}, {"a": [1, {"b": (2,)}]}, {0}, set(), frozenset([1]), range(2), object(), int, len,
            ("a", [1]), [("a", [1])],
        ]
        for thing in things:
            with self.subTest(thing=thing):
                self.alien(thing)

    def test_an_object_that_is_like_all_things(self):
        class Like:
            def __eq__(self, other):
                return True

        thing = Like()
        self.assertIs(fault_of([[1], [thing]])[2], thing)
        self.assertEqual(fault_of([[1, thing], [0]])[:2], ("alien", 0))

    def test_an_object_that_can_not_be_compared(self):
        class Barred:
            def __eq__(self, other):
                raise AssertionError("compared")

            __hash__ = None

        thing = Barred()
        self.assertIs(fault_of([[1, 1], [thing, 0]])[2], thing)

    def test_the_least_point_and_the_first_in_its_list(self):
        self.assertEqual(fault_of([[1], [0, 9, 5, "x"], [-1]]), ("alien", 1, 9))
        self.assertEqual(fault_of([[1, "x", 9], [0, 5]]), ("alien", 0, "x"))
        self.assertEqual(fault_of([[1], [5, 0], ["a"]]), ("alien", 1, 5))
        self.assertEqual(fault_of([[None]]), ("alien", 0, None))

    def test_a_list_in_the_fault_is_not_the_one_handed_in(self):
        thing = [1, [2, {"a": [3]}]]
        turns = [[thing]]
        fault = fault_of(turns)
        thing.append(4)
        thing[1][1]["a"].append(5)
        self.assertEqual(fault, ("alien", 0, [1, [2, {"a": [3]}]]))
        fault[2].clear()
        self.assertEqual(turns, [[[1, [2, {"a": [3, 5]}], 4]]])

    def test_many_lists_in_the_fault_are_not_those_handed_in(self):
        for many in (300, 3000):
            alien = [[] for _ in range(many)]
            fault = fault_of([[alien]])
            alien[many - 50].append(7)
            self.assertEqual(fault, ("alien", 0, [[] for _ in range(many)]))
            fault[2][many - 40].append(8)
            self.assertEqual([place for place, held in enumerate(alien) if held], [many - 50])

    def test_turns_that_hold_themselves(self):
        turns = [[1], [0]]
        turns[1].append(turns)
        fault = fault_of(turns)
        self.assertEqual(fault[:2], ("alien", 1))
        self.assertEqual(fault[2][0], [1])
        fault[2][0].append(5)
        self.assertEqual((len(turns), turns[0], len(turns[1])), (2, [1], 2))


class OtherFaults(unittest.TestCase):
    def check(self, rows):
        for turns, fault in rows:
            with self.subTest(turns=turns):
                self.assertEqual(fault_of(turns), fault)

    def test_self(self):
        self.check([
            ([[0]], ("self", 0, 0)),
            ([[0, 0]], ("self", 0, 0)),
            ([[1, 0], [0]], ("self", 0, 0)),
            ([[1], [0, 1]], ("self", 1, 1)),
            ([[1, 2], [0, 2], [0, 1, 2]], ("self", 2, 2)),
            ([[1, 2], [1, 0], [2, 0]], ("self", 1, 1)),
        ])

    def test_twice(self):
        self.check([
            ([[1, 1], [0]], ("twice", 0, 1)),
            ([[1], [0, 0]], ("twice", 1, 0)),
            ([[1, 1], [0, 0]], ("twice", 0, 1)),
            ([[1, 2, 2, 1], [0], [0]], ("twice", 0, 2)),
            ([[1, 2, 1, 2], [0], [0]], ("twice", 0, 1)),
            ([[2, 1, 1, 1], [0], [0]], ("twice", 0, 1)),
            ([[1, 2], [0, 2], [1, 0, 1, 0]], ("twice", 2, 1)),
        ])

    def test_lone(self):
        self.check([
            ([[1], []], ("lone", 0, 1)),
            ([[], [0]], ("lone", 1, 0)),
            ([[1, 2], [], []], ("lone", 0, 1)),
            ([[2, 1], [], []], ("lone", 0, 2)),
            ([[1, 2], [0], []], ("lone", 0, 2)),
            ([[1], [0, 2], []], ("lone", 1, 2)),
            ([[1], [2], [0]], ("lone", 0, 1)),
            ([[1], [0, 3, 2], [], []], ("lone", 1, 3)),
        ])

    def test_apart(self):
        self.check([
            ([[], []], ("apart", 0, 1)),
            ([[2], [], [0]], ("apart", 0, 1)),
            ([[1], [0], []], ("apart", 0, 2)),
            ([[1], [0], [3], [2]], ("apart", 0, 2)),
            ([[], [2], [1]], ("apart", 0, 1)),
            ([[3], [2], [1], [0, 4], [3]], ("apart", 0, 1)),
        ])
        self.assertEqual(fault_of(path(13) + [[]]), ("apart", 0, 13))

    def test_a_long_way_is_a_way(self):
        self.assertIsNone(fault_of(path(14)))
        # The way from 0 goes by the greatest points first.
        self.assertIsNone(fault_of([[4], [2], [1, 3], [2, 4], [0, 3]]))

    def test_several_at_once(self):
        self.check([
            # Each has all the faults that come behind the told one, most of them at lesser points.
            ([[0, 1, 1], [3], [], [9], []], ("alien", 3, 9)),
            ([[1, 1], [3], [2, 0], [], []], ("self", 2, 2)),
            ([[1], [3], [0, 0], [], []], ("twice", 2, 0)),
            ([[3], [], [3], [0, 2, 1], []], ("lone", 3, 1)),
            ([[3], [], [3], [0, 2], []], ("apart", 0, 1)),
        ])

    def test_turns_that_are_a_web(self):
        for turns in ([[]], [[1], [0]], K4, cycle(5), [[1, 2], [2, 0], [0, 1]]):
            self.assertIsNone(fault_of(turns))


def told_by_the_words(turns):
    """The fault that point 5 tells, found by listing all of them."""
    many = len(turns)
    found = []
    for p, row in enumerate(turns):
        for place, q in enumerate(row):
            if type(q) is not int or q not in range(many):
                found.append((0, p, place, ("alien", p, q)))
    if not found:
        for p, row in enumerate(turns):
            for place, q in enumerate(row):
                if q == p:
                    found.append((1, p, 0, ("self", p, p)))
                if row.index(q) < place:
                    found.append((2, p, place, ("twice", p, q)))
                if turns[q].count(p) == 0:
                    found.append((3, p, place, ("lone", p, q)))
        near = {0}
        for _ in range(many):
            near = near | {q for p in near for q in turns[p]}
        found.extend((4, 0, q, ("apart", 0, q)) for q in range(many) if q not in near)
    return min(found)[3] if found else None


class AllSmallTurns(unittest.TestCase):
    def check_all(self, many, things, longest):
        rows = [list(row) for size in range(longest + 1) for row in itertools.product(things, repeat=size)]
        for turns in itertools.product(rows, repeat=many):
            self.assertEqual(repr(fault_of(list(turns))), repr(told_by_the_words(list(turns))), turns)

    def test_one_point(self):
        self.check_all(1, [0, 1, -1, True, False, "0"], 3)

    def test_two_points(self):
        self.check_all(2, [0, 1, 2, True], 3)

    def test_three_points(self):
        self.check_all(3, [0, 1, 2, 3], 2)
        self.check_all(3, [0, 1, 2], 3)

    def test_four_points(self):
        self.check_all(4, [0, 1, 2, 3], 1)


class WhatAWebTells(unittest.TestCase):
    def test_one_point(self):
        web = Web([[]])
        self.assertEqual((web.many(), web.turns(), web.ties()), (1, [[]], []))
        self.assertIs(web.tied(0, 0), False)

    def test_two_points(self):
        web = Web([[1], [0]])
        self.assertEqual((web.many(), web.turns(), web.ties()), (2, [[1], [0]], [(0, 1)]))
        self.assertEqual((web.behind(0, 1), web.behind(1, 0)), (1, 0))

    def test_turns_are_told_as_they_were_handed_in(self):
        for turns in (K4, [[2, 3, 1], [3, 2, 0], [1, 3, 0], [2, 1, 0]], cycle(14), path(14)):
            told = Web(turns).turns()
            self.assertEqual(told, turns)
            self.assertIs(type(told), list)
            self.assertTrue(all(type(row) is list for row in told))

    def test_ties_are_sorted(self):
        self.assertEqual(Web(K4).ties(), [(0, 1), (0, 2), (0, 3), (1, 2), (1, 3), (2, 3)])
        self.assertEqual(Web([[3, 2], [3, 2], [1, 0], [0, 1]]).ties(), [(0, 2), (0, 3), (1, 2), (1, 3)])
        ties = Web(cycle(14)).ties()
        self.assertEqual(ties, sorted([(p, p + 1) for p in range(13)] + [(0, 13)]))
        self.assertIs(type(ties), list)
        self.assertTrue(all(type(tie) is tuple for tie in ties))

    def test_tied(self):
        web = Web(path(4))
        for a in range(-6, 7):
            for b in range(-6, 7):
                tied = a in range(4) and b in range(4) and abs(a - b) == 1
                self.assertIs(web.tied(a, b), tied, (a, b))

    def test_tied_of_numbers_that_are_no_points(self):
        web = Web([[1], [0]])
        for far in (2, 14, -1, -2, 10 ** 60, -(10 ** 60)):
            for a, b in ((far, 0), (0, far), (far, 1), (1, far), (far, far)):
                self.assertIs(web.tied(a, b), False, (a, b))

    def test_behind(self):
        web = Web([[2, 3, 1], [0, 3], [0], [1, 0]])
        self.assertEqual([web.behind(0, q) for q in (2, 3, 1)], [3, 1, 2])
        self.assertEqual([web.behind(1, q) for q in (0, 3)], [3, 0])
        self.assertEqual(web.behind(2, 0), 0)
        self.assertEqual([web.behind(3, q) for q in (1, 0)], [0, 1])

    def test_behind_does_not_mind_which_stands_first(self):
        for start in range(3):
            turns = [row[start:] + row[:start] for row in K4]
            web = Web(turns)
            for p in range(4):
                for place in range(3):
                    self.assertEqual(web.behind(p, K4[p][place - 1]), K4[p][place])

    def test_asked_again_it_tells_the_same(self):
        web = Web(K4)
        for _ in range(2):
            self.assertEqual((web.many(), web.turns(), web.ties()), (4, K4, Web(K4).ties()))
            self.assertEqual((web.tied(1, 2), web.behind(0, 3)), (True, 1))


class ListsHandedInAndTold(unittest.TestCase):
    def test_what_is_handed_in_stays_as_it_was(self):
        for turns in (
            [[]], [[3, 1, 2], [2, 0, 3], [3, 0, 1], [1, 0, 2]], [], path(15), [[1, "x"], [0]],
            [[0]], [[1, 1], [0]], [[1], []], [[], []],
        ):
            before = repr(turns)
            try:
                web = Web(turns)
                web.turns(), web.ties(), web.many(), web.tied(0, 1)
            except (NoWeb, TooMany):
                pass
            self.assertEqual(repr(turns), before)

    def test_changing_what_was_handed_in_changes_no_web(self):
        turns = [list(row) for row in K4]
        web = Web(turns)
        turns[0].reverse()
        turns[1].append(7)
        turns.append([0])
        del turns[2]
        self.assertEqual((web.many(), web.turns(), web.ties()), (4, K4, Web(K4).ties()))
        self.assertEqual([web.behind(0, q) for q in (1, 2, 3)], [2, 3, 1])
        self.assertIs(web.tied(1, 7), False)

    def test_one_list_handed_in_for_several_points(self):
        ends = [1]
        web = Web([ends, [0, 2], ends])
        ends.append(5)
        told = web.turns()
        self.assertEqual(told, [[1], [0, 2], [1]])
        told[0].append(9)
        self.assertEqual(told[2], [1])

    def test_changing_what_was_told_changes_no_web(self):
        web = Web(K4)
        told = web.turns()
        told[0].reverse()
        told[1].clear()
        told.pop()
        self.assertEqual((web.many(), web.turns()), (4, K4))
        self.assertEqual([web.behind(0, q) for q in (1, 2, 3)], [2, 3, 1])
        ties = web.ties()
        ties.clear()
        self.assertEqual(web.ties(), [(0, 1), (0, 2), (0, 3), (1, 2), (1, 3), (2, 3)])


if __name__ == "__main__":
    unittest.main()
