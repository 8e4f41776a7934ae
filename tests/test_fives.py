"""Five dyes (points 2, 4 and 22)."""

import copy
import unittest

from dyewalk import DeedsWalk, is_dyeing
from mapdye.errors import NotPlane
from mapdye.fives import five_dyes
from mapdye.webs import Web
from samples import (
    CUBE, K4_PLANE, K4_TORUS, Picker, bipyramid, cycle, even_turns, fan, filled_turns, lands_of, path, renamed,
    small_plane_turns, star, thinned, ties_of, turned, two_parts, wheel, whole,
)

# Two points, each in a land of five of a band of two rings of five, all points having five ties.
TWELVE = [
    [1, 2, 3, 4, 5], [0, 5, 6, 7, 2], [0, 1, 7, 8, 3], [0, 2, 8, 9, 4], [0, 3, 9, 10, 5], [0, 4, 10, 6, 1],
    [1, 5, 10, 11, 7], [1, 6, 11, 8, 2], [2, 7, 11, 9, 3], [3, 8, 11, 10, 4], [4, 9, 11, 6, 5], [6, 10, 9, 8, 7],
]


class FiveDyes(unittest.TestCase):
    def check(self, turns):
        """The words of the deeds."""
        web = Web(turns)
        told = five_dyes(web)
        self.assertEqual(web.turns(), turns)
        self.assertIs(type(told), tuple)
        dyeing, order, deeds = told
        for each in told:
            self.assertIs(type(each), list)
        self.assertTrue(is_dyeing(turns, dyeing))
        self.assertLessEqual(set(dyeing), set(range(5)))
        self.order(turns, order)
        left = list(deeds)
        walk = DeedsWalk(self, turns, [None for _ in turns], 5)
        for p in order[::-1]:
            walk.given(p, left)
        self.assertEqual(left, [])
        self.assertEqual(walk.dyeing, dyeing)
        return [deed[0] for deed in deeds]

    def order(self, turns, order):
        self.assertEqual(sorted(order), list(range(len(turns))))
        for place, p in enumerate(order):
            self.assertLessEqual(len([q for q in order[place + 1:] if q in turns[p]]), 5)

    def test_one_and_two_points(self):
        self.assertEqual(self.check([[]]), ["give"])
        self.assertEqual(self.check([[1], [0]]), ["give", "give"])

    def test_all_small_webs(self):
        for turns in small_plane_turns(5):
            self.assertEqual(self.check(turns), ["give" for _ in turns])

    def test_trees_rings_and_others(self):
        for many in range(3, 15):
            for turns in (path(many), star(many), cycle(many)):
                self.check(turns)
        for rim in range(3, 14):
            self.check(wheel(rim))
        for rim in range(3, 13):
            self.check(bipyramid(rim))
        for turns in (CUBE, K4_PLANE, fan(14), two_parts(1, 13)):
            self.check(turns)

    def test_filled_in_webs(self):
        for many in range(3, 15):
            for start in range(12):
                turns = filled_turns(many, start)
                self.check(turns)
                self.check(thinned(turns, many, start))
        for start in range(30):
            self.check(even_turns(start))

    def test_a_web_in_which_each_point_has_five_ties(self):
        self.assertEqual({len(land) for land in lands_of(TWELVE)}, {3})
        words = []
        for start in range(200):
            picker = Picker(start)
            words += self.check(turned(renamed(TWELVE, picker.some(range(12), 12)), picker))
        self.assertEqual(words.count("give"), 2400)

    def test_not_plane(self):
        for turns in (K4_TORUS, whole(5), whole(14), two_parts(3, 3)):
            with self.assertRaises(NotPlane) as caught:
                five_dyes(Web(turns))
            self.assertEqual(caught.exception.counted, (len(turns), len(ties_of(turns)), len(lands_of(turns))))

    def test_asked_again_it_tells_the_same_whatever_became_of_the_first(self):
        for turns in ([[]], CUBE, TWELVE, filled_turns(14, 5)):
            web = Web(turns)
            first = five_dyes(web)
            again = copy.deepcopy(first)
            for each in first:
                each.clear()
            self.assertEqual(five_dyes(web), again)
            self.assertEqual(five_dyes(Web(turns)), again)


if __name__ == "__main__":
    unittest.main()
