"""Rings: ties within, chords, points within, parted and made less (points 2 and 13 to 16)."""

import unittest

from mapdye.errors import NoRing
from mapdye.rings import chords, made_less, parted, points_within, rim_told, within_at
from mapdye.webs import Web
from ringwalk import chords_by_lands, parts_by_the_words, points_by_lands, within_by_lands
from samples import K4_PLANE, Picker, cycle, fan, filled_turns, lands_of, rimmed_turns, rotations, turned, wheel

# The rim 0 to 5; 6, 7 and 8 within, tied to each other; and a chord from 0 to 2 that cuts 1 off.
ISLAND = [
    [1, 2, 6, 5], [2, 0], [3, 8, 7, 6, 0, 1], [4, 8, 2], [5, 8, 3], [0, 6, 8, 4],
    [0, 2, 7, 8, 5], [6, 2, 8], [3, 4, 5, 6, 7, 2],
]


def rings_from(turns, rim, most):
    """The rim and what comes of it by parting and making less, each begun anywhere; so many at the most."""
    web = Web(turns)
    met = []
    seen = set()
    waiting = [rim]
    while waiting and len(met) < most:
        ring = waiting.pop(0)
        if tuple(ring) in seen:
            continue
        met.append(ring)
        # Met at each of its points, but not asked anew at each: what comes of it comes of each one's own last point.
        for other in rotations(ring):
            seen.add(tuple(other))
            if other != ring:
                met.append(other)
            if not [1 for i, j in chords_by_lands(turns, other) if j == len(other) - 1]:
                less = made_less(web, other)
                if len(less) > 2:
                    waiting.append(less)
        for i, j in chords_by_lands(turns, ring):
            waiting.extend(parts_by_the_words(ring, i, j))
    return met


def rimmed_webs():
    """Webs as in 13, with their rims."""
    webs = [(wheel(rim), list(range(rim))) for rim in range(3, 9)] + [(fan(many), list(range(many))) for many in (4, 8)]
    webs += [(cycle(3), [0, 1, 2]), (cycle(3), [0, 2, 1]), (ISLAND, [0, 1, 2, 3, 4, 5])]
    webs += [(K4_PLANE, land) for land in lands_of(K4_PLANE)]
    webs += [(turns, lands_of(turns)[-1]) for turns in (filled_turns(6, 1), filled_turns(9, 2), filled_turns(14, 3))]
    for many in range(4, 15):
        for rim in sorted({3, 4, 5, many // 2 + 1, many - 1, many}):
            if 3 <= rim <= many:
                webs.append(rimmed_turns(many, rim, many + rim))
    return webs


class TheRim(unittest.TestCase):
    def test_a_land_begun_anywhere(self):
        for turns, rim in rimmed_webs():
            for ring in rotations(rim):
                self.assertIn(rim_told(Web(turns), ring), lands_of(turns))
                self.assertIn(ring, rotations(rim_told(Web(turns), ring)))

    def test_what_is_none(self):
        for ring in ([], [0], [0, 1], [0, 1, 2, 0], [0, 4, 3, 2, 1], [0, 1, 2, 3], [0, 1, 2, 3, 9], [0, True, 2, 3, 4]):
            self.assertRaises(NoRing, rim_told, Web(wheel(5)), ring)
        # Lands' lists but for one that is no point, and a land with a point twice.
        self.assertRaises(NoRing, rim_told, Web(wheel(5)), [0, 1, 2, 9, 3, 4])
        self.assertRaises(NoRing, rim_told, Web([[1], [0, 2], [1]]), [0, 1, 2, 1])


class SomeRings(unittest.TestCase):
    def test_a_wheel(self):
        web = Web(wheel(5))
        ring = [0, 1, 2, 3, 4]
        self.assertEqual([within_at(web, ring, i) for i in range(5)], [[5], [5], [5], [5], [5]])
        self.assertEqual(chords(web, ring), [])
        self.assertEqual(points_within(web, ring), [5])
        self.assertEqual(made_less(web, ring), [0, 1, 2, 3, 5])
        ring = [0, 1, 2, 3, 5]
        self.assertEqual([within_at(web, ring, i) for i in range(5)], [[], [5], [5], [], [1, 2]])
        self.assertEqual(chords(web, ring), [(1, 4), (2, 4)])
        self.assertEqual(points_within(web, ring), [])
        self.assertEqual(parted(ring, 1, 4), ([1, 2, 3, 5], [5, 0, 1]))
        self.assertEqual(parted(ring, 2, 4), ([2, 3, 5], [5, 0, 1, 2]))
        self.assertEqual(made_less(web, [5, 0, 1]), [5, 0])
        self.assertEqual(made_less(web, [5, 1, 2, 3]), [5, 1, 2])

    def test_a_fan(self):
        web = Web(fan(6))
        ring = [0, 1, 2, 3, 4, 5]
        self.assertEqual(within_at(web, ring, 0), [2, 3, 4])
        self.assertEqual([within_at(web, ring, i) for i in range(1, 6)], [[], [0], [0], [0], []])
        self.assertEqual(chords(web, ring), [(0, 2), (0, 3), (0, 4)])
        self.assertEqual(chords(web, [3, 4, 5, 0, 1, 2]), [(0, 3), (1, 3), (3, 5)])
        self.assertEqual(points_within(web, ring), [])
        self.assertEqual(made_less(web, ring), [0, 1, 2, 3, 4])
        self.assertEqual(parted(ring, 0, 3), ([0, 1, 2, 3], [3, 4, 5, 0]))

    def test_an_island(self):
        web = Web(ISLAND)
        ring = [0, 1, 2, 3, 4, 5]
        self.assertEqual(
            [within_at(web, ring, i) for i in range(6)], [[2, 6], [], [8, 7, 6, 0], [8], [8], [6, 8]]
        )
        self.assertEqual(chords(web, ring), [(0, 2)])
        self.assertEqual(points_within(web, ring), [6, 7, 8])
        # Within the part that the chord cuts off there is nothing, and all is within the other one.
        one, other = parted(ring, 0, 2)
        self.assertEqual((one, other), ([0, 1, 2], [2, 3, 4, 5, 0]))
        self.assertEqual(points_within(web, one), [])
        self.assertEqual(points_within(web, other), [6, 7, 8])
        self.assertEqual(within_at(web, other, 4), [6])
        self.assertEqual(made_less(web, [1, 2, 3, 4, 5, 0][1:]), [2, 3, 4, 5, 6])
        # The points come in the order in which neighbours are tied.
        self.assertEqual(made_less(web, ring), [0, 1, 2, 3, 4, 8, 6])
        self.assertEqual(points_within(web, [0, 1, 2, 3, 4, 8, 6]), [7])
        self.assertEqual(chords(web, [0, 1, 2, 3, 4, 8, 6]), [(0, 2), (2, 5), (2, 6), (3, 5)])

    def test_a_ring_of_three(self):
        web = Web(K4_PLANE)
        for land in lands_of(K4_PLANE):
            for ring in rotations(land):
                within = [p for p in range(4) if p not in ring]
                self.assertEqual([within_at(web, ring, i) for i in range(3)], [within] * 3)
                self.assertEqual(points_within(web, ring), within)
                self.assertEqual(made_less(web, ring), ring[:2] + within)
        web = Web(cycle(3))
        for ring in rotations([0, 1, 2]) + rotations([2, 1, 0]):
            self.assertEqual([within_at(web, ring, i) for i in range(3)], [[], [], []])
            self.assertEqual((points_within(web, ring), chords(web, ring)), ([], []))
            self.assertEqual(made_less(web, ring), ring[:2])

    def test_points_beyond_the_ring_are_not_within(self):
        # Of a filled-in web each land is a rim; what is within a ring of three may be a part of the web only.
        turns = K4_PLANE
        land = lands_of(turns)[0]
        web = Web(turns)
        less = made_less(web, land)
        self.assertEqual(points_within(web, less), [])
        for i, j in chords(web, less):
            for part in parted(less, i, j):
                self.assertEqual(points_within(web, part), [])

    def test_parted_at_any_places(self):
        ring = [7, 3, 5, 9, 1, 2]
        for i in range(6):
            for j in range(i + 1, 6):
                self.assertEqual(parted(ring, i, j), parts_by_the_words(ring, i, j))
        self.assertEqual(parted(ring, 0, 2), ([7, 3, 5], [5, 9, 1, 2, 7]))
        self.assertEqual(parted(ring, 2, 5), ([5, 9, 1, 2], [2, 7, 3, 5]))
        self.assertEqual(parted(ring, 1, 4), ([3, 5, 9, 1], [1, 2, 7, 3]))


class ManyRings(unittest.TestCase):
    def check(self, turns, ring):
        web = Web(turns)
        handed = list(ring)
        for i in range(len(ring)):
            self.assertEqual(within_at(web, handed, i), within_by_lands(turns, ring, i))
        told = chords(web, handed)
        self.assertEqual(told, chords_by_lands(turns, ring))
        self.assertEqual(points_within(web, handed), points_by_lands(turns, ring))
        for i, j in told:
            self.parts(web, turns, handed, i, j)
        if all(j < len(ring) - 1 for i, j in told):
            self.less(web, turns, handed)
        self.assertEqual(handed, ring)
        self.assertEqual(web.turns(), turns)

    def parts(self, web, turns, ring, i, j):
        one, other = parted(ring, i, j)
        self.assertEqual((one, other), parts_by_the_words(ring, i, j))
        for part in (one, other):
            self.assertGreater(len(part), 2)
            self.assertTrue(all(b in turns[a] for a, b in zip(part, part[1:] + part[:1])))
        within = points_within(web, ring)
        self.assertEqual(sorted(points_within(web, one) + points_within(web, other)), within)

    def less(self, web, turns, ring):
        less = made_less(web, ring)
        last = len(ring) - 1
        self.assertEqual(less, ring[:last] + list(reversed(within_by_lands(turns, ring, last))))
        self.assertTrue(all(b in turns[a] for a, b in zip(less, less[1:] + less[:1])))
        self.assertEqual(len(set(less)), len(less))
        if len(less) > 2:
            gone = [p for p in points_within(web, ring) if p not in less]
            self.assertEqual(points_within(web, less), gone)
        else:
            self.assertEqual((len(ring), points_within(web, ring)), (3, []))

    def test_the_rim_and_what_comes_of_it(self):
        looked_at = 0
        for turns, rim in rimmed_webs():
            for ring in rings_from(turns, rim, 120):
                self.check(turns, ring)
                looked_at += 1
        self.assertGreater(looked_at, 4000)

    def test_which_one_stands_first_in_a_turn_is_no_matter(self):
        for start in range(6):
            turns = turned(ISLAND, Picker(start))
            for ring in rings_from(turns, [0, 1, 2, 3, 4, 5], 80):
                self.check(turns, ring)

    def test_all_points_of_the_web_but_those_of_the_rim_are_within_it(self):
        for turns, rim in rimmed_webs():
            within = [p for p in range(len(turns)) if p not in rim]
            for ring in rotations(rim):
                self.assertEqual(points_within(Web(turns), ring), within)


class ListsHandedInAndTold(unittest.TestCase):
    def test_what_was_told_may_be_changed(self):
        web = Web(ISLAND)
        ring = [0, 1, 2, 3, 4, 5]
        for ask in (
            lambda: within_at(web, ring, 5), lambda: chords(web, ring), lambda: points_within(web, ring),
            lambda: parted(ring, 0, 2)[0], lambda: parted(ring, 0, 2)[1], lambda: made_less(web, ring),
            lambda: parted(ring, 0, 5)[0], lambda: parted(ring, 0, 5)[1], lambda: made_less(Web(cycle(3)), [0, 1, 2]),
        ):
            first = ask()
            self.assertIs(type(first), list)
            told = list(first)
            first.append(77)
            first[0] = 66
            self.assertEqual(ask(), told)
            self.assertEqual(ring, [0, 1, 2, 3, 4, 5])
            self.assertEqual(web.turns(), ISLAND)

    def test_kinds(self):
        web = Web(ISLAND)
        self.assertTrue(all(type(chord) is tuple for chord in chords(web, [0, 1, 2, 3, 4, 5])))
        self.assertIs(type(parted([0, 1, 2, 3], 0, 2)), tuple)
        self.assertEqual(len(parted([0, 1, 2, 3], 0, 2)), 2)


if __name__ == "__main__":
    unittest.main()
