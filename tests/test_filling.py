"""Ties put in, and webs filled in (points 2, 4, 8, 10, 11 and 12)."""

import itertools
import unittest

from mapdye.errors import NoCorner, NoRing, NotPlane, TooSmall
from mapdye.filling import filled, filled_within, put_in
from mapdye.lands import count, is_plane, lands
from mapdye.webs import Web
from samples import (
    CUBE, K4_PLANE, K4_TORUS, Picker, all_turns, cycle, fan, filled_turns, lands_of, path, put_in_turns, renamed,
    rotations, small_plane_turns, star, thinned, ties_of, turned, two_parts, wheel, whole,
)

# A ring of three, a tie that hangs outside of it, and one that hangs within it.
HANGING = [[1, 3, 2], [0, 2], [1, 0, 4], [0], [2]]
# Two rings of three that hang together by 0 alone, the one beside the other.
TWO_RINGS = [[1, 2, 3, 4], [2, 0], [0, 1], [4, 0], [0, 3]]
# The same, but with a tie from 0 on each side between them.
TWO_RINGS_AND_TIES = [[1, 2, 5, 3, 4, 6], [2, 0], [0, 1], [4, 0], [0, 3], [0], [0]]


def plane_turns():
    """Many plane webs: all small ones of each shape, and greater ones thinned out."""
    webs = list(small_plane_turns(5))
    webs += [HANGING, TWO_RINGS, TWO_RINGS_AND_TIES, CUBE, star(14), path(14), cycle(14), wheel(13), fan(14)]
    for many in range(6, 15):
        for start in range(4):
            webs.append(filled_turns(many, start))
            for less in (2, many, 3 * many):
                webs.append(thinned(filled_turns(many, start), less, start + less))
    return webs


class PutIn(unittest.TestCase):
    def refused(self, turns, land, i, j):
        web = Web(turns)
        with self.assertRaises(NoCorner):
            put_in(web, land, i, j)
        self.assertEqual(web.turns(), turns)

    def test_a_ring_of_four(self):
        # The lands are [0, 1, 2, 3] and [0, 3, 2, 1].
        turns = [[1, 3], [2, 0], [3, 1], [0, 2]]
        for land, i, j, told in (
            (0, 0, 2, [[1, 3, 2], [2, 0], [3, 1, 0], [0, 2]]),
            (0, 2, 0, [[1, 3, 2], [2, 0], [3, 1, 0], [0, 2]]),
            (0, 1, 3, [[1, 3], [2, 0, 3], [3, 1], [0, 2, 1]]),
            (1, 0, 2, [[1, 2, 3], [2, 0], [3, 0, 1], [0, 2]]),
            (1, 3, 1, [[1, 3], [2, 3, 0], [3, 1], [0, 1, 2]]),
        ):
            with self.subTest(land=land, i=i, j=j):
                made = put_in(Web(turns), land, i, j)
                self.assertIsInstance(made, Web)
                self.assertEqual(made.turns(), told)

    def test_behind_the_last_in_the_list_it_stands_at_the_end(self):
        # The land is [0, 1, 2, 1]; ahead of 0 stands 1, which is the last in 0's list.
        self.assertEqual(put_in(Web(path(3)), 0, 0, 2).turns(), [[1, 2], [0, 2], [1, 0]])
        # 1's list begins with the point ahead, or ends with it.
        self.assertEqual(put_in(Web([[1, 3], [2, 0], [3, 1], [0, 2]]), 0, 1, 3).turns()[1], [2, 0, 3])
        self.assertEqual(put_in(Web([[1, 3], [0, 2], [3, 1], [0, 2]]), 0, 1, 3).turns()[1], [0, 3, 2])

    def test_the_place_matters_where_a_point_stands_more_than_once(self):
        # A star, one of whose rays is longer.
        turns = [[1, 2, 3], [0, 4], [0], [0], [1]]
        self.assertEqual(lands(Web(turns)), [[0, 1, 4, 1, 0, 2, 0, 3]])
        for i, told in ((0, [1, 2, 3, 4]), (4, [1, 4, 2, 3]), (6, [1, 2, 4, 3])):
            made = put_in(Web(turns), 0, i, 2).turns()
            self.assertEqual(made, [told, [0, 4], [0], [0], [1, 0]])
            self.assertEqual(put_in(Web(turns), 0, 2, i).turns(), made)

    def test_unlike_points_of_two_rings(self):
        web = Web(TWO_RINGS)
        number = [land.count(0) for land in lands(web)].index(2)
        land = lands(web)[number]
        made = put_in(web, number, land.index(2), land.index(3))
        self.assertTrue(made.tied(2, 3))
        self.assertEqual(count(made), (5, 7, 4))

    def test_alike_points(self):
        self.refused([[]], 0, 0, 0)
        self.refused(cycle(4), 0, 1, 1)
        self.refused(path(3), 0, 1, 3)
        self.refused(path(3), 0, 3, 1)
        self.refused(star(4), 0, 0, 2)
        self.refused(star(4), 0, 4, 2)

    def test_tied_points(self):
        self.refused([[1], [0]], 0, 0, 1)
        self.refused(cycle(4), 0, 0, 1)
        self.refused(cycle(4), 1, 3, 0)
        self.refused(path(3), 0, 0, 1)
        for land in range(4):
            for i, j in itertools.permutations(range(3), 2):
                self.refused(K4_PLANE, land, i, j)
        # They are tied in another land.
        made = put_in(Web(cycle(4)), 0, 0, 2).turns()
        number = lands_of(made).index([0, 3, 2, 1])
        self.refused(made, number, 0, 2)
        self.assertEqual(put_in(Web(made), number, 1, 3).ties(), Web(whole(4)).ties())

    def test_lands_and_places_that_there_are_not(self):
        for land in (2, 3, -1, -2, 10 ** 60, -(10 ** 60)):
            self.refused(cycle(4), land, 0, 2)
        for far in (4, 5, 6, -1, -2, -4, 10 ** 60, -(10 ** 60)):
            for near in range(4):
                self.refused(cycle(4), 0, far, near)
                self.refused(cycle(4), 1, near, far)
            self.refused(cycle(4), 0, far, far)
            self.refused(cycle(4), 0, far, -far)
        self.refused([[]], 1, 0, 0)
        self.refused([[]], 0, 0, 1)
        # The lands have unlike numbers of places.
        turns = put_in(Web(cycle(7)), 0, 0, 2).turns()
        for number, land in enumerate(lands_of(turns)):
            self.refused(turns, number, 0, len(land))
            self.refused(turns, number, len(land), 1)

    def test_true_and_false_are_no_places_and_no_lands(self):
        self.refused(cycle(5), True, 0, 2)
        self.refused(cycle(5), False, 0, 2)
        self.refused(cycle(5), 0, True, 3)
        self.refused(cycle(5), 0, 2, False)

    def test_a_web_that_is_not_plane(self):
        # Two rounds, of which the greater has each of these ties twice.
        turns = two_parts(3, 3)
        for number, land in enumerate(lands_of(turns)):
            for i, j in itertools.permutations(range(len(land)), 2):
                if land[i] != land[j] and land[j] not in turns[land[i]]:
                    made = put_in(Web(turns), number, i, j)
                    self.assertEqual(made.turns(), put_in_turns(turns, land, i, j))
                    self.assertIs(is_plane(made), False)

    def check_all(self, turns):
        """Each land, and each two places of it and somewhat beyond, as the words of point 10 tell."""
        web = Web(turns)
        told = lands_of(turns)
        for number in range(-2, len(told) + 2):
            land = told[number] if number in range(len(told)) else []
            for i, j in itertools.product(range(-2, len(land) + 2), repeat=2):
                there = i in range(len(land)) and j in range(len(land))
                if there and land[i] != land[j] and land[j] not in turns[land[i]]:
                    made = put_in(web, number, i, j)
                    self.assertEqual(made.turns(), put_in_turns(turns, land, i, j))
                    self.fallen_in_two(turns, made.turns(), land, i, j)
                else:
                    self.assertRaises(NoCorner, put_in, web, number, i, j)
        self.assertEqual(web.turns(), turns)

    def fallen_in_two(self, turns, made, land, i, j):
        parts = lands_of(made)
        for other in lands_of(turns):
            if other != land:
                parts.remove(other)
        low, high = min(i, j), max(i, j)
        one, other = land[low:high + 1], land[high:] + land[:low + 1]
        self.assertEqual(len(parts), 2)
        self.assertTrue(
            parts[0] in rotations(one) and parts[1] in rotations(other)
            or parts[0] in rotations(other) and parts[1] in rotations(one)
        )

    def test_all_places_of_many_webs(self):
        for turns in list(small_plane_turns(4)) + [HANGING, TWO_RINGS, TWO_RINGS_AND_TIES, K4_TORUS, CUBE, path(7)]:
            self.check_all(turns)
            self.check_all(turned(turns, Picker(5)))
        for turns in itertools.islice(all_turns(two_parts(2, 3)), 12):
            self.check_all(turns)

    def test_put_in_again_and_again(self):
        web = Web(cycle(14))
        for far in range(2, 13):
            number = [land[0:2] == [0, far - 1] and len(land) > 3 for land in lands(web)].index(True)
            web = put_in(web, number, 0, 2)
        self.assertEqual(count(web), (14, 25, 13))
        self.assertIn([0] + list(range(13, 0, -1)), lands(web))


class Filled(unittest.TestCase):
    def follow(self, turns, made, ties, kept):
        """Each tie was put in as in 10, into a land other than kept, and it leads from the one web to the other."""
        put = []
        now = turns
        for tie in ties:
            self.assertIs(type(tie), tuple)
            self.assertLess(tie[0], tie[1])
            self.assertNotIn(tie, ties_of(now))
            put.append(tie)
            after = [
                [q for q in row if q in turns[p] or (min(p, q), max(p, q)) in put] for p, row in enumerate(made)
            ]
            ways = [
                put_in_turns(now, land, i, j)
                for land in lands_of(now) if land != kept
                for i, a in enumerate(land) for j, b in enumerate(land) if (a, b) == tie
            ]
            self.assertIn(after, ways)
            now = after
        self.assertEqual(now, made)

    def check(self, turns):
        web = Web(turns)
        told = filled(web)
        self.assertIs(type(told), tuple)
        made, ties = told
        self.assertIsInstance(made, Web)
        self.assertIs(type(ties), list)
        self.follow(turns, made.turns(), ties, None)
        self.assertTrue(all(len(land) == 3 for land in lands_of(made.turns())))
        self.assertEqual(count(made), (len(turns), 3 * len(turns) - 6, 2 * len(turns) - 4))
        self.assertEqual(len(ties), 3 * len(turns) - 6 - len(ties_of(turns)))
        self.assertEqual(web.turns(), turns)
        return made.turns(), ties

    def test_three_points(self):
        self.assertEqual(self.check(cycle(3))[1], [])
        self.assertEqual(self.check(path(3)), ([[1, 2], [0, 2], [1, 0]], [(0, 2)]))
        self.assertEqual(self.check(star(3))[1], [(1, 2)])

    def test_many_webs(self):
        for turns in plane_turns():
            if len(turns) > 2:
                self.check(turns)

    def test_filled_in_webs_get_no_ties(self):
        for turns in (cycle(3), K4_PLANE, filled_turns(9, 1), filled_turns(14, 2)):
            self.assertEqual(self.check(turns), (turns, []))
        for turns in plane_turns():
            if len(turns) > 2:
                made, ties = self.check(turns)
                self.assertEqual(self.check(made), (made, []))

    def test_all_names_of_the_points_of_some_webs(self):
        for turns in (HANGING, TWO_RINGS, path(5), [[1, 2, 3, 4], [0], [0], [0], [0]]):
            for order in itertools.permutations(range(5)):
                self.check(renamed(turns, order))

    def test_too_small(self):
        self.assertRaises(TooSmall, filled, Web([[]]))
        self.assertRaises(TooSmall, filled, Web([[1], [0]]))

    def test_not_plane(self):
        for turns in (K4_TORUS, whole(5), whole(14), two_parts(3, 3)):
            with self.assertRaises(NotPlane) as caught:
                filled(Web(turns))
            counted = (len(turns), len(ties_of(turns)), len(lands_of(turns)))
            self.assertEqual(caught.exception.counted, counted)

    def test_asked_again_it_tells_the_same(self):
        for turns in (path(9), CUBE, star(9)):
            one, other = filled(Web(turns)), filled(Web(turns))
            self.assertEqual((one[0].turns(), one[1]), (other[0].turns(), other[1]))
            ties = list(one[1])
            one[1].clear()
            self.assertEqual(filled(Web(turns))[1], ties)


class FilledWithin(unittest.TestCase):
    follow = Filled.follow

    def check(self, turns, ring):
        """The ring is a land's, begun anywhere."""
        web = Web(turns)
        handed = list(ring)
        told = filled_within(web, handed)
        self.assertIs(type(told), tuple)
        made, ties = told
        self.assertIsInstance(made, Web)
        self.assertIs(type(ties), list)
        kept = [land for land in lands_of(turns) if land in rotations(ring)][0]
        self.follow(turns, made.turns(), ties, kept)
        others = lands_of(made.turns())
        self.assertIn(kept, others)
        others.remove(kept)
        self.assertTrue(all(len(land) == 3 for land in others))
        self.assertEqual(len(made.ties()), 3 * len(turns) - 3 - len(ring))
        self.assertEqual(web.turns(), turns)
        self.assertEqual(handed, ring)
        return made.turns(), ties

    def refused(self, turns, ring):
        handed = list(ring)
        with self.assertRaises(NoRing):
            filled_within(Web(turns), handed)
        self.assertEqual(handed, ring)

    def test_each_ring_of_many_webs(self):
        looked_at = 0
        for turns in plane_turns():
            for land in lands_of(turns):
                if len(land) > 2 and len(set(land)) == len(land):
                    self.check(turns, land)
                    looked_at += 1
                else:
                    self.refused(turns, land)
        self.assertGreater(looked_at, 500)

    def test_begun_at_any_point(self):
        for turns, land in ((cycle(6), list(range(6))), (CUBE, lands_of(CUBE)[0]), (wheel(5), list(range(5)))):
            made = self.check(turns, land)
            for ring in rotations(land):
                self.assertEqual(sorted(self.check(turns, ring)[1]), sorted(made[1]))

    def test_the_other_side_of_a_ring_is_another_land(self):
        one = self.check(cycle(5), [0, 1, 2, 3, 4])[0]
        other = self.check(cycle(5), [4, 3, 2, 1, 0])[0]
        self.assertIn([0, 1, 2, 3, 4], lands_of(one))
        self.assertNotIn([0, 4, 3, 2, 1], lands_of(one))
        self.assertIn([0, 4, 3, 2, 1], lands_of(other))
        self.assertNotIn([0, 1, 2, 3, 4], lands_of(other))

    def test_turned_about_it_is_no_land(self):
        for turns, land in ((wheel(5), [0, 1, 2, 3, 4]), (CUBE, lands_of(CUBE)[2]), (K4_PLANE, lands_of(K4_PLANE)[1])):
            for ring in rotations(land[::-1]):
                self.refused(turns, ring)
            for ring in rotations(land):
                self.check(turns, ring)

    def test_where_all_lands_have_three_points_already(self):
        for turns in (cycle(3), K4_PLANE, filled_turns(10, 1)):
            for land in lands_of(turns):
                self.assertEqual(self.check(turns, land), (turns, []))

    def test_too_short(self):
        for turns in ([[]], [[1], [0]], path(3), cycle(5), K4_PLANE):
            for ring in ([], [0], [1], [0, 1], [1, 0], [0, 0]):
                self.refused(turns, ring)

    def test_with_a_point_twice(self):
        self.refused(path(3), [0, 1, 2, 1])
        self.refused(path(3), [1, 0, 1, 2])
        self.refused(star(4), [0, 1, 0, 2, 0, 3])
        for land in lands_of(HANGING) + lands_of(TWO_RINGS):
            if len(set(land)) < len(land):
                for ring in rotations(land):
                    self.refused(HANGING, ring)
                    self.refused(TWO_RINGS, ring)
        self.refused(cycle(3), [0, 1, 2, 0, 1, 2])
        self.refused(cycle(3), [0, 1, 2, 0])
        self.refused(cycle(4), [0, 1, 1, 2, 3])

    def test_no_lands(self):
        self.refused(cycle(5), [0, 1, 2, 3])
        self.refused(cycle(5), [0, 2, 1, 3, 4])
        self.refused(wheel(5), [0, 1, 2, 3, 5])
        self.refused(wheel(5), [0, 1, 5])
        self.refused(cycle(3), [0, 1, 3])
        self.refused(cycle(3), [0, 1, -1])
        self.refused(cycle(3), [-3, -2, -1])
        self.refused(cycle(3), [0, 1, 2, 3])
        self.refused(cycle(3), [0, 1, 10 ** 60])
        # Points of the web, each tied to the next, around more than one land.
        self.refused(CUBE, [0, 1, 2, 6, 7, 4])

    def test_true_is_no_point(self):
        self.refused(cycle(3), [0, True, 2])
        self.refused(cycle(3), [False, 1, 2])
        self.refused(cycle(3), [0, 1, 2, True])

    def test_not_plane_goes_ahead(self):
        for turns in (K4_TORUS, whole(5), two_parts(3, 3)):
            counted = (len(turns), len(ties_of(turns)), len(lands_of(turns)))
            for ring in ([], [0], [0, 1, 0], [0, 1, 2], [0, 9, 8]) + tuple(lands_of(turns)):
                with self.assertRaises(NotPlane) as caught:
                    filled_within(Web(turns), ring)
                self.assertEqual(caught.exception.counted, counted)

    def test_what_was_told_may_be_changed(self):
        ring = [0, 1, 2, 3, 4, 5]
        web = Web(cycle(6))
        made, ties = filled_within(web, ring)
        turns, told = made.turns(), list(ties)
        ties.append((0, 1))
        ring.clear()
        self.assertEqual(made.turns(), turns)
        again = filled_within(web, [0, 1, 2, 3, 4, 5])
        self.assertEqual((again[0].turns(), again[1]), (turns, told))


if __name__ == "__main__":
    unittest.main()
