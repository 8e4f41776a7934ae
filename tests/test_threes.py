"""Three dyes of filled-in webs, or an odd wheel (points 2, 4 and 24)."""

import copy
import unittest

from dyewalk import all_dyeings, is_dyeing
from mapdye.errors import NotFilled, NotPlane, TooSmall
from mapdye.threes import three_dyes
from mapdye.webs import Web
from samples import (
    CUBE, K4_PLANE, K4_TORUS, Picker, bipyramid, cycle, even_turns, fan, filled_turns, lands_of, path, renamed,
    short_of_plane, small_plane_turns, star, thinned, ties_of, turned, two_parts, wheel, whole,
)


class ThreeDyes(unittest.TestCase):
    def check(self, turns):
        """The word told."""
        self.assertEqual({len(land) for land in lands_of(turns)}, {3})
        web = Web(turns)
        told = three_dyes(web)
        self.assertEqual(web.turns(), turns)
        self.assertIs(type(told), tuple)
        if all(len(row) % 2 == 0 for row in turns):
            word, dyeing = told
            self.assertEqual(word, "dyed")
            self.assertIs(type(dyeing), list)
            self.assertTrue(is_dyeing(turns, dyeing))
            self.assertEqual(set(dyeing), {0, 1, 2})
        else:
            word, p, ring = told
            self.assertEqual(word, "wheel")
            self.assertIs(type(ring), list)
            self.assertEqual(len(turns[p]) % 2, 1)
            self.assertEqual(ring, turns[p])
            for q, r in zip(ring, ring[1:] + ring[:1]):
                self.assertIn(r, turns[q])
        return word

    def test_three_points(self):
        self.assertEqual(self.check(cycle(3)), "dyed")
        self.assertEqual(self.check([[2, 1], [0, 2], [1, 0]]), "dyed")

    def test_even_ones(self):
        for rim in (4, 6, 8, 10, 12):
            self.assertEqual(self.check(bipyramid(rim)), "dyed")
        sizes = set()
        for start in range(80):
            turns = even_turns(start)
            sizes.add(len(turns))
            self.assertEqual(self.check(turns), "dyed")
        self.assertGreater(len(sizes), 5)

    def test_all_namings_of_an_even_one(self):
        for start in range(150):
            picker = Picker(start)
            self.assertEqual(self.check(turned(renamed(bipyramid(6), picker.some(range(8), 8)), picker)), "dyed")

    def test_odd_ones(self):
        self.assertEqual(self.check(K4_PLANE), "wheel")
        for rim in (3, 5, 7, 9, 11):
            self.assertEqual(self.check(bipyramid(rim)), "wheel")
        for many in range(4, 15):
            for start in range(15):
                self.check(filled_turns(many, start))

    def test_against_all_dyeings(self):
        webs = [turns for turns in small_plane_turns(5) if len(turns) > 2 and {len(x) for x in lands_of(turns)} == {3}]
        webs += [filled_turns(many, start) for many in (6, 7, 8) for start in range(6)] + [bipyramid(4), bipyramid(6)]
        for turns in webs:
            self.assertEqual(self.check(turns) == "dyed", bool(all_dyeings(turns, [[0, 1, 2] for _ in turns])))

    def test_asked_again_it_tells_the_same_whatever_became_of_the_first(self):
        for turns in (cycle(3), bipyramid(6), K4_PLANE, filled_turns(9, 1)):
            web = Web(turns)
            first = three_dyes(web)
            again = copy.deepcopy(first)
            first[-1].clear()
            self.assertEqual(three_dyes(web), again)
            self.assertEqual(web.turns(), turns)


class Refused(unittest.TestCase):
    def test_too_small(self):
        self.assertRaises(TooSmall, three_dyes, Web([[]]))
        self.assertRaises(TooSmall, three_dyes, Web([[1], [0]]))

    def test_not_plane_goes_ahead_of_not_filled(self):
        for turns in (K4_TORUS, whole(5), whole(9), two_parts(3, 3)):
            with self.assertRaises(NotPlane) as caught:
                three_dyes(Web(turns))
            self.assertEqual(caught.exception.counted, (len(turns), len(ties_of(turns)), len(lands_of(turns))))

    def test_not_plane_though_all_lands_have_three_points(self):
        # Seven points, all tied, on a ring that is closed up itself.
        turns = [[(p + k) % 7 for k in (1, 3, 2, 6, 4, 5)] for p in range(7)]
        self.assertEqual({len(land) for land in lands_of(turns)}, {3})
        self.assertGreater(short_of_plane(turns), 0)
        self.assertRaises(NotPlane, three_dyes, Web(turns))

    def test_not_filled(self):
        webs = [path(3), star(4), cycle(4), cycle(14), wheel(4), wheel(5), fan(6), CUBE]
        webs += [thinned(filled_turns(many, many), 2, start) for many in (5, 8, 14) for start in range(8)]
        numbers = set()
        for turns in webs:
            wide = [number for number, land in enumerate(lands_of(turns)) if len(land) != 3]
            with self.assertRaises(NotFilled) as caught:
                three_dyes(Web(turns))
            self.assertEqual(caught.exception.land, wide[0])
            numbers.add(wide[0])
        self.assertGreater(len(numbers), 3)

    def test_not_filled_goes_ahead_of_a_wheel(self):
        # All points of the rim have three ties.
        with self.assertRaises(NotFilled) as caught:
            three_dyes(Web(wheel(5)))
        self.assertEqual(caught.exception.land, [len(land) for land in lands_of(wheel(5))].index(5))


if __name__ == "__main__":
    unittest.main()
