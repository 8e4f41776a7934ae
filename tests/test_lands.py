"""Lands, counts, and which webs are plane (points 2, 7 and 8)."""

import itertools
import unittest

from mapdye.errors import NotPlane
from mapdye.lands import count, is_plane, lands, need_plane
from mapdye.webs import Web
from samples import CUBE, K4_PLANE, K4_TORUS, all_turns, cycle, path, sides_of, two_parts, whole


class LandsTold(unittest.TestCase):
    def test_some_webs(self):
        for turns, told in (
            ([[]], [[0]]),
            ([[1], [0]], [[0, 1]]),
            ([[1], [0, 2], [1]], [[0, 1, 2, 1]]),
            ([[1, 2], [0, 2], [0, 1]], [[0, 1, 2], [0, 2, 1]]),
            (K4_PLANE, [[0, 1, 3], [0, 2, 1], [0, 3, 2], [1, 2, 3]]),
            (K4_TORUS, [[0, 1, 2, 3], [0, 2, 1, 3, 2, 0, 3, 1]]),
            (cycle(14), [list(range(14)), [0] + list(range(13, 0, -1))]),
            (path(14), [list(range(14)) + list(range(12, 0, -1))]),
        ):
            with self.subTest(turns=turns):
                self.assertEqual(lands(Web(turns)), told)

    def test_the_turn_matters(self):
        self.assertEqual(lands(Web([[1, 2, 3], [0], [0], [0]])), [[0, 1, 0, 2, 0, 3]])
        self.assertEqual(lands(Web([[2, 1, 3], [0], [0], [0]])), [[0, 1, 0, 3, 0, 2]])

    def test_a_land_with_a_point_more_than_once_and_both_sides_of_a_tie(self):
        # A three-sided land with a tie that hangs outside of it, or within it.
        self.assertEqual(lands(Web([[1, 2, 3], [0, 2], [1, 0], [0]])), [[0, 1, 2, 0, 3], [0, 2, 1]])
        self.assertEqual(lands(Web([[1, 3, 2], [0, 2], [1, 0], [0]])), [[0, 1, 2], [0, 2, 1, 0, 3]])

    def test_a_land_begins_at_its_least_side_not_only_at_its_least_point(self):
        # 0 is in the land three times; the side (0, 1) comes ahead of (0, 2) and (0, 3).
        for turn in itertools.permutations([1, 2, 3]):
            self.assertEqual(lands(Web([list(turn), [0], [0], [0]]))[0][:2], [0, 1])
        # 0's turn has 3 ahead of 1, and the land has the side (0, 3) as well.
        web = Web([[3, 1], [0, 2], [1], [0, 4], [3]])
        self.assertEqual(lands(web), [[0, 1, 2, 1, 0, 3, 4, 3]])
        # A point more than once beside a land of three: (0, 1) comes ahead of (0, 3).
        self.assertEqual(lands(Web([[2, 1, 3], [0], [0, 3], [2, 0]])), [[0, 1, 0, 3, 2], [0, 2, 3]])

    def test_the_lands_are_sorted(self):
        for turns in (K4_PLANE, K4_TORUS, CUBE, cycle(14)):
            told = lands(Web(turns))
            self.assertEqual(told, sorted(told))

    def test_which_one_stands_first_is_no_matter(self):
        for turns in (K4_PLANE, K4_TORUS, CUBE):
            for start in range(3):
                turned = [row[start:] + row[:start] for row in turns]
                self.assertEqual(lands(Web(turned)), lands(Web(turns)))

    def test_kinds(self):
        told = lands(Web(CUBE))
        self.assertIs(type(told), list)
        self.assertTrue(all(type(land) is list for land in told))


class CountsTold(unittest.TestCase):
    def test_some_counts(self):
        for turns, counted, plane in (
            ([[]], (1, 0, 1), True),
            ([[1], [0]], (2, 1, 1), True),
            ([[1, 2], [0, 2], [0, 1]], (3, 3, 2), True),
            (K4_PLANE, (4, 6, 4), True),
            (K4_TORUS, (4, 6, 2), False),
            (CUBE, (8, 12, 6), True),
            (cycle(14), (14, 14, 2), True),
            (path(14), (14, 13, 1), True),
        ):
            with self.subTest(turns=turns):
                told = count(Web(turns))
                self.assertEqual(told, counted)
                self.assertIs(type(told), tuple)
                self.assertIs(is_plane(Web(turns)), plane)

    def test_another_one_is_refused_where_a_plane_one_is_asked_for(self):
        for turns in ([[]], [[1], [0]], K4_PLANE, CUBE, path(14)):
            self.assertIsNone(need_plane(Web(turns)))
        for turns, counted in ((K4_TORUS, (4, 6, 2)), (whole(5), count(Web(whole(5))))):
            with self.assertRaises(NotPlane) as caught:
                need_plane(Web(turns))
            self.assertEqual(caught.exception.counted, counted)
            self.assertIs(type(caught.exception.counted), tuple)

    def spread(self, neighbours):
        """For each number by which points and lands fall short of ties and two: of how many turns."""
        numbers = {}
        for turns in all_turns(neighbours):
            web = Web(turns)
            points, ties, rounds = count(web)
            short = ties + 2 - points - rounds
            self.assertIs(is_plane(web), short == 0)
            numbers[short] = numbers.get(short, 0) + 1
        return numbers

    # How often a drawing of these webs closes up as the plane, a ring, a double ring and so on is well known.
    def test_all_turns_of_four_points_all_tied(self):
        self.assertEqual(self.spread(whole(4)), {0: 2, 2: 14})

    def test_all_turns_of_five_points_all_tied(self):
        self.assertEqual(self.spread(whole(5)), {2: 462, 4: 4974, 6: 2340})

    def test_all_turns_of_three_points_tied_to_three(self):
        self.assertEqual(self.spread(two_parts(3, 3)), {2: 40, 4: 24})

    def test_all_turns_of_a_tree_are_plane(self):
        self.assertEqual(self.spread([[1, 2, 3, 4], [0, 5, 6], [0], [0], [0], [1], [1]]), {0: 12})


class LandsByTheWords(unittest.TestCase):
    def check(self, turns):
        web = Web(turns)
        told = lands(web)
        self.assertEqual(told, sorted(told))
        met = []
        for land in told:
            sides = sides_of(land)
            self.assertEqual(sides[0], min(sides))
            for place, (p, q) in enumerate(sides):
                row = turns[q]
                follows = (q, row[(row.index(p) + 1) % len(row)])
                self.assertEqual(sides[(place + 1) % len(sides)], follows)
            met.extend(sides)
        self.assertEqual(sorted(met), sorted((p, q) for p, row in enumerate(turns) for q in row))

    def test_all_turns_of_some_webs(self):
        for neighbours in (whole(2), whole(3), whole(4), two_parts(2, 3), two_parts(3, 3), two_parts(1, 5)):
            for turns in all_turns(neighbours):
                self.check(turns)

    def test_greater_webs(self):
        for turns in (CUBE, cycle(14), path(14), whole(7), whole(14), two_parts(7, 7)):
            self.check(turns)


class ListsHandedInAndTold(unittest.TestCase):
    def test_changing_what_was_told_changes_nothing(self):
        for turns in ([[]], [[1], [0]], K4_PLANE):
            web = Web(turns)
            first = lands(web)
            expected = [list(land) for land in first]
            first[0].append(99)
            first[-1].clear()
            first.append([5])
            self.assertEqual(lands(web), expected)
            self.assertEqual(lands(Web(turns)), expected)
            self.assertEqual(count(web)[2], len(expected))

    def test_asking_changes_no_web(self):
        for turns in (K4_PLANE, K4_TORUS, CUBE):
            web = Web(turns)
            ties = web.ties()
            for _ in range(2):
                self.assertEqual(lands(web), lands(Web(turns)))
                self.assertEqual(count(web), count(Web(turns)))
                self.assertEqual(is_plane(web), is_plane(Web(turns)))
            self.assertEqual(web.turns(), turns)
            self.assertEqual(web.ties(), ties)


if __name__ == "__main__":
    unittest.main()
