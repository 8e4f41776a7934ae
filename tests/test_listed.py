"""Dyes from lists (points 2, 4 and 17 to 19)."""

import copy
import itertools
import unittest

from mapdye.errors import Alike, NoRing, NotFilled, NotPlane, TooFew
from mapdye.filling import filled
from mapdye.lands import count
from mapdye.listed import five_listed, listed
from mapdye.webs import Web
from ringwalk import StepsWalk
from samples import (
    CUBE, K4_PLANE, K4_TORUS, Picker, cycle, fan, filled_turns, lands_of, path, rimmed_turns, rotations,
    small_plane_turns, star, thinned, ties_of, two_parts, wheel, whole,
)

FAR = 10 ** 60 - 1


def lists_for(turns, ring, picker, dyes, more):
    """Lists of three dyes at the ring and five within, and up to so many more, in no order."""
    lists = []
    for p in range(len(turns)):
        many = (3 if p in ring else 5) + (picker.below(more + 1) if more else 0)
        lists.append(picker.some(dyes, many))
    return lists


def rimmed_webs():
    webs = [(wheel(rim), list(range(rim))) for rim in (3, 4, 5, 8, 13)]
    webs += [(fan(many), list(range(many))) for many in (4, 5, 9, 14)] + [(cycle(3), [0, 1, 2]), (cycle(3), [2, 1, 0])]
    webs += [(K4_PLANE, land) for land in lands_of(K4_PLANE)]
    webs += [(turns, lands_of(turns)[1]) for turns in (filled_turns(5, 1), filled_turns(8, 2), filled_turns(14, 3))]
    for many in range(4, 15):
        for rim in sorted({3, 4, many // 2 + 1, many - 1, many}):
            if 3 <= rim <= many:
                webs.append(rimmed_turns(many, rim, 7 * many + rim))
    return webs


class Dyed(unittest.TestCase):
    def proper(self, turns, dyeing):
        self.assertIs(type(dyeing), list)
        self.assertEqual(len(dyeing), len(turns))
        for a, b in ties_of(turns):
            self.assertNotEqual(dyeing[a], dyeing[b])

    def check(self, turns, ring, lists, one, other):
        web = Web(turns)
        handed_ring, handed_lists = list(ring), copy.deepcopy(lists)
        told = listed(web, handed_ring, handed_lists, one, other)
        self.assertEqual((handed_ring, handed_lists, web.turns()), (ring, lists, turns))
        self.assertIs(type(told), tuple)
        dyeing, steps = told
        self.proper(turns, dyeing)
        self.assertEqual((dyeing[ring[0]], dyeing[ring[1]]), (one, other))
        for p in range(len(turns)):
            if p not in ring[:2]:
                self.assertIn(dyeing[p], lists[p])
        self.assertIs(type(steps), list)
        self.assertEqual(StepsWalk(self, turns, lists, steps).dyeing(ring, one, other), dyeing)
        return steps

    def test_a_ring_of_three(self):
        self.assertEqual(listed(Web(cycle(3)), [0, 1, 2], [[], [], [7, 8, 9]], 7, 8)[0], [7, 8, 9])
        self.assertEqual(listed(Web(cycle(3)), [1, 2, 0], [[4, 5, 6], [], []], 5, 6)[0], [4, 5, 6])
        for ring in rotations([0, 1, 2]) + rotations([0, 2, 1]):
            for one, other in itertools.permutations(range(5), 2):
                lists = [[0, 1, 2], [1, 2, 3], [2, 1, 0]]
                steps = self.check(cycle(3), ring, lists, one, other)
                self.assertEqual([step[0] for step in steps], ["off"])

    def test_a_ring_of_four_with_a_chord(self):
        # The chord (0, 2) ends at the ring's last point, or at its first, or at neither.
        for ring in rotations([0, 1, 2, 3]):
            for lists in itertools.product([[0, 1, 2], [0, 1, 3], [2, 3, 0]], repeat=4):
                for one, other in ((0, 1), (1, 0), (2, 0), (9, 3)):
                    self.check(fan(4), ring, [list(row) for row in lists], one, other)

    def test_lists_of_just_three_and_five(self):
        words = []
        for number, (turns, rim) in enumerate(rimmed_webs()):
            picker = Picker(number)
            for dyes in (range(5), range(6), range(8), range(-3, 30)):
                for ring in rotations(rim)[:6]:
                    lists = lists_for(turns, ring, picker, dyes, 0)
                    one, other = picker.some(dyes, 2)
                    words += [step[0] for step in self.check(turns, ring, lists, one, other)]
        # Else the walk would have had one kind of step only to look at.
        self.assertEqual(set(words), {"chord", "off"})

    def test_longer_lists(self):
        for number, (turns, rim) in enumerate(rimmed_webs()):
            picker = Picker(number + 50)
            for dyes, more in ((range(8), 3), (range(40), 25)):
                for ring in rotations(rim)[:3]:
                    lists = lists_for(turns, ring, picker, dyes, more)
                    self.check(turns, ring, lists, *picker.some(dyes, 2))

    def test_like_lists(self):
        for turns, rim in rimmed_webs():
            for ring in rotations(rim)[:4]:
                lists = [[0, 1, 2] if p in ring else [0, 1, 2, 3, 4] for p in range(len(turns))]
                for one, other in ((0, 1), (2, 1), (3, 4)):
                    self.check(turns, ring, lists, one, other)

    def test_dyes_of_the_first_two_from_their_lists_or_not(self):
        for turns, rim in ((wheel(5), [0, 1, 2, 3, 4]), (fan(7), [3, 4, 5, 6, 0, 1, 2]), rimmed_turns(9, 5, 2)):
            lists = [[1, 2, 3, 4, 5] for _ in turns]
            for one, other in ((1, 2), (1, 9), (9, 1), (8, 9), (-1, 0), (FAR, -FAR)):
                self.check(turns, rim, lists, one, other)

    def test_first_two_with_short_lists_or_none(self):
        for turns, rim in rimmed_webs():
            for ring in rotations(rim)[:3]:
                for row in ([], [1], [1, 2], None):
                    lists = [[1, 2, 3] if p in ring else [1, 2, 3, 4, 5] for p in range(len(turns))]
                    lists[ring[0]] = lists[ring[1]] = row
                    self.check(turns, ring, lists, 1, 2)
                    self.check(turns, ring, lists, 3, 6)

    def test_first_two_beyond_the_last_list(self):
        self.check(cycle(3), [1, 2, 0], [[1, 2, 3]], 1, 2)
        self.check(cycle(3), [2, 1, 0], [[1, 2, 3]], 3, 2)

    def test_great_and_negative_dyes(self):
        for turns, rim in (rimmed_turns(10, 6, 1), (wheel(9), list(range(9)))):
            dyes = [FAR, -FAR, 0, -1, 1, FAR - 1, -2]
            lists = [dyes[:3] if p in rim else dyes[2:] for p in range(len(turns))]
            for one, other in itertools.permutations(dyes, 2):
                self.check(turns, rim, lists, one, other)

    def test_all_lists_of_a_small_wheel(self):
        # Each list of three of four dyes at the rim, all five within.
        rows = [list(row) for row in itertools.combinations(range(4), 3)]
        for chosen in itertools.product(rows, repeat=3):
            for one, other in itertools.permutations(range(5), 2):
                lists = [[], []] + [list(row) for row in chosen] + [[4, 3, 2, 1, 0]]
                self.check(wheel(5), [0, 1, 2, 3, 4], lists, one, other)

    def test_one_list_for_all(self):
        row = [5, 4, 3, 2, 1]
        lists = [row for _ in range(14)]
        turns, rim = rimmed_turns(14, 5, 3)
        dyeing, steps = listed(Web(turns), rim, lists, 1, 2)
        self.proper(turns, dyeing)
        self.assertEqual(row, [5, 4, 3, 2, 1])

    def test_asked_again_it_tells_the_same_whatever_became_of_the_first(self):
        turns, rim = rimmed_turns(12, 7, 4)
        lists = lists_for(turns, rim, Picker(1), range(7), 2)
        first = listed(Web(turns), rim, lists, 0, 1)
        again = copy.deepcopy(first)
        first[0].clear()
        first[1].pop()
        self.assertEqual(listed(Web(turns), rim, lists, 0, 1), again)
        second = listed(Web(turns), rim, lists, 0, 1)
        for row in lists:
            row.clear()
        rim.clear()
        self.assertEqual(second, again)


class Refused(unittest.TestCase):
    def refused(self, error, turns, ring, lists, one, other):
        """The refusal; what was handed in stays."""
        web = Web(turns)
        handed_ring, handed_lists = list(ring), copy.deepcopy(lists)
        with self.assertRaises(error) as caught:
            listed(web, handed_ring, handed_lists, one, other)
        self.assertEqual((handed_ring, handed_lists, web.turns()), (ring, lists, turns))
        return caught.exception

    def test_not_plane_goes_ahead_of_all(self):
        for turns in (K4_TORUS, whole(5), two_parts(3, 3)):
            few = [[] for _ in turns]
            fives = [[1, 2, 3, 4, 5] for _ in turns]
            counted = (len(turns), len(ties_of(turns)), len(lands_of(turns)))
            for ring in ([], [0, 1, 2], [0, 0, 1], lands_of(turns)[0]):
                for lists in (few, fives):
                    for other in (1, 2):
                        refusal = self.refused(NotPlane, turns, ring, lists, 1, other)
                        self.assertEqual(refusal.counted, counted)

    def test_no_ring_goes_ahead_of_the_rest(self):
        fives = [[1, 2, 3, 4, 5] for _ in range(8)]
        for turns, ring in (
            (wheel(5), []), (wheel(5), [0]), (wheel(5), [0, 1]), (wheel(5), [0, 0, 1]), (wheel(5), [4, 3, 2, 1, 0]),
            (wheel(5), [0, 1, 2, 3, 4, 0]), (wheel(5), [0, 1, 2, 3]), (wheel(5), [0, 1, 2, 3, 6]),
            (wheel(5), [0, 1, 2, 3, -2]), (wheel(5), [0, True, 2, 3, 4]), (path(3), [0, 1, 2, 1]),
            (CUBE, [0, 1, 2, 6]), (CUBE, lands_of(CUBE)[0][::-1]), ([[]], [0]), ([[1], [0]], [0, 1]), ([[1], [0]], []),
        ):
            for lists in (fives[:len(turns)], [[] for _ in turns]):
                for other in (1, 2):
                    self.refused(NoRing, turns, ring, lists, 1, other)

    def test_not_filled_goes_ahead_of_alike_and_too_few(self):
        thin = thinned(filled_turns(9, 2), 3, 1)
        webs = [(cycle(4), [0, 1, 2, 3]), (cycle(4), [0, 3, 2, 1]), (cycle(14), list(range(14)))]
        webs += [(CUBE, land) for land in lands_of(CUBE)]
        webs += [(thin, land) for land in lands_of(thin) if len(land) == 3]
        # A wheel's rim is another land than each of its lands of three.
        webs += [(wheel(5), land) for land in lands_of(wheel(5)) if len(land) == 3]
        numbers = set()
        for turns, land in webs:
            told = lands_of(turns)
            first = min(n for n, each in enumerate(told) if each != land and len(each) != 3)
            numbers.add(first)
            for ring in rotations(land):
                for lists in ([[1, 2, 3, 4, 5] for _ in turns], [[] for _ in turns]):
                    for other in (1, 2):
                        self.assertEqual(self.refused(NotFilled, turns, ring, lists, 1, other).land, first)
        self.assertLess({0, 1}, numbers)

    def test_a_wide_land_that_is_the_rim_is_no_matter(self):
        lists = [[1, 2, 3, 4, 5] for _ in range(6)]
        self.assertEqual(len(listed(Web(wheel(5)), [0, 1, 2, 3, 4], lists, 1, 2)[0]), 6)

    def test_alike_goes_ahead_of_too_few(self):
        for turns, rim in ((wheel(5), [0, 1, 2, 3, 4]), (cycle(3), [0, 2, 1]), rimmed_turns(10, 6, 3)):
            for ring in rotations(rim):
                for lists in ([[1, 2, 3, 4, 5] for _ in turns], [[] for _ in turns]):
                    for dye in (1, 9, 0, -5, FAR):
                        refusal = self.refused(Alike, turns, ring, lists, dye, dye)
                        self.assertEqual((refusal.one, refusal.other), (ring[0], ring[1]))

    def test_too_few(self):
        for turns, rim in rimmed_webs():
            for ring in rotations(rim)[:3]:
                enough = [[1, 2, 3] if p in ring else [1, 2, 3, 4, 5] for p in range(len(turns))]
                for p in range(len(turns)):
                    lists = copy.deepcopy(enough)
                    lists[p].pop()
                    if p in ring[:2]:
                        listed(Web(turns), ring, lists, 1, 2)
                    else:
                        self.assertEqual(self.refused(TooFew, turns, ring, lists, 1, 2).point, p)

    def test_too_few_tells_the_least_point(self):
        turns, ring = wheel(6), [0, 1, 2, 3, 4, 5]
        for short in itertools.product([False, True], repeat=7):
            lists = [[1, 2, 3, 4, 5][:(3 if p in ring else 5) - short[p]] for p in range(7)]
            for begun in (ring, [4, 5, 0, 1, 2, 3]):
                due = [p for p in range(7) if short[p] and p not in begun[:2]]
                if due:
                    self.assertEqual(self.refused(TooFew, turns, begun, lists, 1, 2).point, due[0])
                else:
                    listed(Web(turns), begun, lists, 1, 2)

    def test_three_are_enough_at_the_rim_alone(self):
        for many in range(6):
            lists = [[1, 2, 3, 4, 5] for _ in range(6)]
            lists[5] = [1, 2, 3, 4, 5][:many]
            if many < 5:
                self.assertEqual(self.refused(TooFew, wheel(5), [0, 1, 2, 3, 4], lists, 1, 2).point, 5)
            lists[5], lists[3] = [1, 2, 3, 4, 5], [1, 2, 3, 4, 5][:many]
            if many < 3:
                self.assertEqual(self.refused(TooFew, wheel(5), [0, 1, 2, 3, 4], lists, 1, 2).point, 3)
            else:
                listed(Web(wheel(5)), [0, 1, 2, 3, 4], lists, 1, 2)


class FiveListed(unittest.TestCase):
    proper = Dyed.proper

    def check(self, turns, lists):
        web = Web(turns)
        handed = copy.deepcopy(lists)
        told = five_listed(web, handed)
        self.assertEqual((handed, web.turns()), (lists, turns))
        self.assertIs(type(told), tuple)
        dyeing, made, ring, steps = told
        self.proper(turns, dyeing)
        for p, dye in enumerate(dyeing):
            self.assertIn(dye, lists[p])
        self.assertIs(type(ring), list)
        self.assertIs(type(steps), list)
        if len(turns) < 3:
            self.assertIsNone(made)
            self.assertEqual((ring, steps), ([], []))
            return
        self.assertIsInstance(made, Web)
        self.filled_in(turns, made.turns())
        self.proper(made.turns(), dyeing)
        self.assertIn(ring, [begun for land in lands_of(made.turns()) for begun in rotations(land)])
        one, other = dyeing[ring[0]], dyeing[ring[1]]
        self.assertEqual(StepsWalk(self, made.turns(), lists, steps).dyeing(ring, one, other), dyeing)

    def filled_in(self, turns, made):
        self.assertEqual([[q for q in row if q in turns[p]] for p, row in enumerate(made)], turns)
        self.assertEqual({len(land) for land in lands_of(made)}, {3})
        self.assertEqual(count(Web(made)), (len(turns), 3 * len(turns) - 6, 2 * len(turns) - 4))

    def test_one_point(self):
        for row in ([1, 2, 3, 4, 5], [FAR, -1, 0, 7, 8, 9]):
            self.check([[]], [row])

    def test_two_points(self):
        for one, other in itertools.product(itertools.permutations(range(5)), repeat=2):
            if one[:2] == (0, 1) or other[0] == one[0]:
                self.check([[1], [0]], [list(one), list(other)])
        self.check([[1], [0]], [[1, 2, 3, 4, 5], [6, 7, 8, 9, 10, 11]])
        self.check([[1], [0]], [[-1, -2, -3, -4, -5, -6], [-1, -2, -3, -4, -5]])

    def test_all_small_webs(self):
        for number, turns in enumerate(small_plane_turns(5)):
            picker = Picker(number)
            self.check(turns, [[0, 1, 2, 3, 4] for _ in turns])
            for dyes in (range(5), range(6), range(9)):
                self.check(turns, [picker.some(dyes, 5) for _ in turns])

    def test_greater_webs(self):
        webs = [CUBE, star(14), path(14), cycle(14), wheel(13), fan(14), two_parts(1, 6)]
        webs += [filled_turns(many, start) for many in range(3, 15) for start in range(4)]
        webs += [thinned(turns, 2 * len(turns), 1) for turns in webs]
        for number, turns in enumerate(webs):
            picker = Picker(number)
            self.check(turns, [[4, 3, 2, 1, 0] for _ in turns])
            for dyes in (range(5), range(6), range(-10, 20)):
                self.check(turns, [picker.some(dyes, 5) for _ in turns])
            self.check(turns, [picker.some(range(40), 5 + picker.below(26)) for _ in turns])

    def test_the_web_filled_in_is_as_in_11(self):
        for turns in (path(5), CUBE, star(9)):
            made = five_listed(Web(turns), [[1, 2, 3, 4, 5] for _ in turns])[1]
            self.assertEqual(made.turns(), filled(Web(turns))[0].turns())

    def test_not_plane_goes_ahead(self):
        for turns in (K4_TORUS, whole(5), two_parts(3, 3)):
            counted = (len(turns), len(ties_of(turns)), len(lands_of(turns)))
            for lists in ([[1, 2, 3, 4, 5] for _ in turns], [[] for _ in turns]):
                with self.assertRaises(NotPlane) as caught:
                    five_listed(Web(turns), lists)
                self.assertEqual(caught.exception.counted, counted)

    def test_too_few(self):
        for turns in ([[]], [[1], [0]], path(3), cycle(3), K4_PLANE, path(4), wheel(5), cycle(5)):
            for short in itertools.product([0, 1, 5], repeat=len(turns)):
                lists = [[1, 2, 3, 4, 5][:5 - less] for less in short]
                due = [p for p, less in enumerate(short) if less]
                if due:
                    with self.assertRaises(TooFew) as caught:
                        five_listed(Web(turns), lists)
                    self.assertEqual(caught.exception.point, due[0])
                else:
                    self.check(turns, lists)

    def test_asked_again_it_tells_the_same_whatever_became_of_the_first(self):
        for turns in ([[]], [[1], [0]], CUBE, filled_turns(9, 1)):
            lists = [[p % 3, 7, 8, 9, 10] for p in range(len(turns))]
            first = five_listed(Web(turns), lists)
            again = copy.deepcopy((first[0], first[2], first[3]))
            for told in (first[0], first[2], first[3]):
                told.append(99)
            second = five_listed(Web(turns), lists)
            self.assertEqual((second[0], second[2], second[3]), again)
            for row in lists:
                row.clear()
            self.assertEqual((second[0], second[2], second[3]), again)


if __name__ == "__main__":
    unittest.main()
