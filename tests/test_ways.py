"""The ways of dyeing, counted (points 2, 4, 8 and 28)."""

import itertools
import unittest

from dyewalk import all_dyeings
from mapdye.errors import TooMany
from mapdye.ways import ways, ways_by
from mapdye.webs import Web
from samples import (
    CUBE, K4_PLANE, K4_TORUS, all_turns, bipyramid, cycle, fan, filled_turns, path, small_neighbours, star, thinned,
    ties_of, two_parts, wheel, whole,
)

FAR = 10 ** 60 - 1
DYES = (0, 1, 2, 3, 4, 5, 7, 10, 12345, 10 ** 59, FAR)


def falling(k, many):
    """k times k - 1 times .., so many factors."""
    told = 1
    for less in range(many):
        told *= k - less
    return told


class Ways(unittest.TestCase):
    def check(self, turns):
        web = Web(turns)
        told = ways(web)
        self.assertIs(type(told), list)
        self.assertEqual({type(number) for number in told}, {int})
        self.assertEqual(len(told), len(turns) + 1)
        self.assertEqual((told[-1], told[-2], told[0]), (1, -len(ties_of(turns)), 0))
        for k in DYES:
            self.assertEqual(ways_by(web, k), sum(number * k ** i for i, number in enumerate(told)))
        self.assertEqual(web.turns(), turns)
        return told

    def test_some(self):
        self.assertEqual(self.check([[]]), [0, 1])
        self.assertEqual(self.check([[1], [0]]), [0, -1, 1])
        self.assertEqual(self.check(cycle(3)), [0, 2, -3, 1])
        self.assertEqual(self.check(cycle(4)), [0, -3, 6, -4, 1])
        self.assertEqual(self.check(K4_PLANE), [0, -6, 11, -6, 1])

    def test_against_all_dyeings(self):
        webs = [rows for many in range(1, 6) for rows in small_neighbours(many)]
        webs += [cycle(6), wheel(5), fan(6), two_parts(3, 3), whole(6), bipyramid(4), filled_turns(6, 1)]
        for turns in webs:
            self.check(turns)
            for k in range(5):
                counted = len(all_dyeings(turns, [range(k) for _ in turns]))
                self.assertEqual(ways_by(Web(turns), k), counted)

    def test_against_all_dyeings_of_seven_and_eight_points(self):
        webs = [wheel(6), CUBE, wheel(7), filled_turns(7, 1), filled_turns(8, 3), thinned(filled_turns(8, 2), 8, 1)]
        for turns in webs:
            self.check(turns)
            for k in range(4):
                self.assertEqual(ways_by(Web(turns), k), len(all_dyeings(turns, [range(k) for _ in turns])))

    def test_trees(self):
        for many in range(1, 9):
            for turns in (path(many), star(many)):
                self.check(turns)
                for k in DYES:
                    self.assertEqual(ways_by(Web(turns), k), k * (k - 1) ** (many - 1))

    def test_rings(self):
        for many in range(3, 9):
            self.check(cycle(many))
            for k in DYES:
                self.assertEqual(ways_by(Web(cycle(many)), k), (k - 1) ** many + (-1) ** many * (k - 1))

    def test_wheels(self):
        for rim in range(3, 8):
            self.check(wheel(rim))
            for k in DYES:
                self.assertEqual(ways_by(Web(wheel(rim)), k), k * ((k - 2) ** rim + (-1) ** rim * (k - 2)))

    def test_all_ties(self):
        for many in range(1, 9):
            self.check(whole(many))
            for k in DYES:
                self.assertEqual(ways_by(Web(whole(many)), k), falling(k, many))

    def test_two_parts_all_tied(self):
        # One part's points fall on j dyes in so many ways, the other part's have the others.
        for other in range(1, 7):
            for k in DYES:
                counted = k * (k - 1) ** other + k * (k - 1) * (k - 2) ** other
                self.assertEqual(ways_by(Web(two_parts(2, other)), k), counted)

    def test_no_dyes_and_kinds(self):
        for turns in ([[]], path(4), CUBE, K4_TORUS, whole(8)):
            self.assertEqual(ways_by(Web(turns), 0), 0)
            self.assertIs(type(ways_by(Web(turns), FAR)), int)

    def test_how_it_is_drawn_is_no_matter(self):
        told = {tuple(ways(Web(turns))) for turns in all_turns(whole(4))}
        self.assertEqual(told, {(0, -6, 11, -6, 1)})
        self.assertEqual(ways(Web(K4_TORUS)), ways(Web(K4_PLANE)))

    def test_nine_points(self):
        for turns in (path(9), cycle(9), wheel(8), whole(9), two_parts(4, 5), filled_turns(14, 1), whole(14)):
            self.assertRaises(TooMany, ways, Web(turns))
            for k in (0, 1, FAR):
                self.assertRaises(TooMany, ways_by, Web(turns), k)

    def test_the_same_again(self):
        web = Web(CUBE)
        first = ways(web)
        again = list(first)
        first.clear()
        self.assertEqual(ways(web), again)

    def test_signs_go_by_turns(self):
        for turns in itertools.chain(small_neighbours(5), [CUBE, wheel(7)]):
            for place, number in enumerate(reversed(self.check(turns)[1:])):
                self.assertGreater(number * (-1) ** place, 0)


if __name__ == "__main__":
    unittest.main()
