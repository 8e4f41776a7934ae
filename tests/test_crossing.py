"""Lands' dyes, ties' dyes, and crossed webs (points 2, 4, 8 and 25 to 27)."""

import copy
import itertools
import unittest

from mapdye.crossing import crossed, land_dyes, tie_dyes
from mapdye.errors import Alike, Bridge, NotPlane, Odd, Shared, TooMany
from mapdye.webs import Web
from samples import (
    CUBE, K4_PLANE, K4_TORUS, Picker, bipyramid, cycle, even_turns, fan, filled_turns, lands_of, path, renamed,
    rotations, short_of_plane, sides_of, small_plane_turns, star, thinned, ties_of, turned, two_parts, wheel, whole,
)

# A three-sided land, and a tie that hangs on it.
HANGING = [[1, 2, 3], [0, 2], [1, 0], [0]]
NOT_PLANE = [K4_TORUS, whole(5), whole(8), two_parts(3, 3), two_parts(4, 7)]


def sides_by_land(turns):
    """For each side the number of its land."""
    if turns == [[]]:
        return {}
    return {side: number for number, land in enumerate(lands_of(turns)) for side in sides_of(land)}


def alike_ties(turns, dyes):
    """The ties with like dyes on both sides."""
    land_of = sides_by_land(turns)
    return [(a, b) for a, b in sorted(ties_of(turns)) if dyes[land_of[a, b]] == dyes[land_of[b, a]]]


def some_land_dyes(turns, picker):
    """Lands' dyes, unlike on both sides of as many ties as it can be."""
    land_of = sides_by_land(turns)
    dyes = [picker.below(4) for _ in lands_of(turns)]
    for _ in range(40):
        for a, b in alike_ties(turns, dyes):
            near = [dyes[land_of[q, p]] for (p, q), land in land_of.items() if land == land_of[a, b]]
            free = [dye for dye in range(4) if dye not in near]
            dyes[land_of[a, b]] = picker.one_of(free) if free else picker.below(4)
    return dyes


def sums_at_points(turns, dyes):
    sums = [0 for _ in turns]
    for (a, b), dye in zip(sorted(ties_of(turns)), dyes):
        sums[a] ^= dye
        sums[b] ^= dye
    return sums


def some_webs():
    webs = [cycle(3), cycle(4), cycle(14), wheel(4), wheel(5), wheel(13), fan(6), CUBE, K4_PLANE, bipyramid(5)]
    webs += [filled_turns(many, start) for many in (4, 6, 9, 14) for start in range(3)] + [even_turns(1), even_turns(2)]
    return webs + [thinned(filled_turns(9, 2), 3, 1)]


class TieDyes(unittest.TestCase):
    def check(self, turns, dyes):
        """Whether ties' dyes are told."""
        web = Web(turns)
        handed = list(dyes)
        alike = alike_ties(turns, dyes)
        if alike:
            with self.assertRaises(Alike) as caught:
                tie_dyes(web, handed)
            self.assertEqual((caught.exception.one, caught.exception.other), alike[0])
        else:
            told = tie_dyes(web, handed)
            land_of = sides_by_land(turns)
            self.assertIs(type(told), list)
            self.assertEqual(told, [dyes[land_of[a, b]] ^ dyes[land_of[b, a]] for a, b in sorted(ties_of(turns))])
            self.assertLessEqual(set(told), {1, 2, 3})
            self.assertEqual(set(sums_at_points(turns, told)), {0})
            for p, row in enumerate(turns):
                if len(row) == 3:
                    at = [dye for tie, dye in zip(sorted(ties_of(turns)), told) if p in tie]
                    self.assertEqual(sorted(at), [1, 2, 3])
            if short_of_plane(turns) == 0:
                self.back(turns, dyes, told)
        self.assertEqual((handed, web.turns()), (list(dyes), turns))
        return not alike

    def back(self, turns, dyes, told):
        for first in range(4):
            handed = list(told)
            web = Web(turns)
            lands_dyed = land_dyes(web, handed, first)
            self.assertEqual((handed, web.turns()), (told, turns))
            self.assertIs(type(lands_dyed), list)
            self.assertEqual(lands_dyed, [dye ^ dyes[0] ^ first for dye in dyes])
            self.assertEqual(tie_dyes(web, lands_dyed), told)

    def test_one_point(self):
        for dye in range(4):
            self.assertEqual(tie_dyes(Web([[]]), [dye]), [])
            self.assertEqual(land_dyes(Web([[]]), [], dye), [dye])

    def test_some(self):
        self.assertEqual(tie_dyes(Web(cycle(3)), [0, 3]), [3, 3, 3])
        self.assertEqual(tie_dyes(Web(K4_PLANE), [0, 1, 2, 3]), [1, 3, 2, 2, 3, 1])
        self.assertEqual(land_dyes(Web(K4_PLANE), [1, 3, 2, 2, 3, 1], 0), [0, 1, 2, 3])
        self.assertEqual(land_dyes(Web(K4_PLANE), [1, 3, 2, 2, 3, 1], 3), [3, 2, 1, 0])

    def test_all_lands_dyes_of_small_webs(self):
        told = 0
        for turns in itertools.islice(small_plane_turns(5), 0, None, 7):
            if len(lands_of(turns)) <= 4:
                for dyes in itertools.product(range(4), repeat=len(lands_of(turns))):
                    told += self.check(turns, list(dyes))
        self.assertGreater(told, 100)

    def test_greater_webs(self):
        words = []
        for number, turns in enumerate(some_webs()):
            picker = Picker(number)
            for _ in range(6):
                words.append(self.check(turns, some_land_dyes(turns, picker)))
                words.append(self.check(turns, [picker.below(4) for _ in lands_of(turns)]))
        self.assertGreater(min(words.count(True), words.count(False)), 60)

    def test_webs_that_are_not_plane(self):
        words = []
        for number, turns in enumerate(NOT_PLANE):
            picker = Picker(number)
            for _ in range(20):
                words.append(self.check(turns, some_land_dyes(turns, picker)))
        # Seven points, all tied, on a ring that is closed up itself; each land three-sided.
        turns = [[(p + k) % 7 for k in (1, 3, 2, 6, 4, 5)] for p in range(7)]
        for start in range(20):
            words.append(self.check(turns, some_land_dyes(turns, Picker(start))))
        self.assertIn(True, words)

    def test_a_tie_with_one_land_on_both_sides(self):
        for turns in ([[1], [0]], path(5), star(7)):
            for dye in range(4):
                with self.assertRaises(Alike) as caught:
                    tie_dyes(Web(turns), [dye])
                self.assertEqual((caught.exception.one, caught.exception.other), (0, 1))
        for dyes in itertools.product(range(4), repeat=2):
            self.assertFalse(self.check(HANGING, list(dyes)))
        with self.assertRaises(Alike) as caught:
            tie_dyes(Web(HANGING), [1, 2])
        self.assertEqual((caught.exception.one, caught.exception.other), (0, 3))

    def test_each_tie_the_first_that_is_alike(self):
        for turns in (CUBE, K4_PLANE, wheel(5)):
            met = set()
            for dyes in itertools.product(range(4), repeat=len(lands_of(turns))):
                alike = alike_ties(turns, dyes)
                if len(alike) == 1 and alike[0] not in met or len(alike) > 1 and dyes[0] == 2 and dyes[1] == 1:
                    self.check(turns, list(dyes))
                    met.update(alike[:1])
            self.assertEqual(met, set(ties_of(turns)))

    def test_told_lists_belong_to_whoever_asked(self):
        web = Web(K4_PLANE)
        dyes = [0, 1, 2, 3]
        told = tie_dyes(web, dyes)
        again = land_dyes(web, told, 0)
        told.clear()
        again.clear()
        self.assertEqual(dyes, [0, 1, 2, 3])
        self.assertEqual(tie_dyes(web, dyes), [1, 3, 2, 2, 3, 1])
        self.assertEqual(land_dyes(web, [1, 3, 2, 2, 3, 1], 0), [0, 1, 2, 3])


class LandDyes(unittest.TestCase):
    def odd(self, turns, dyes, first, point):
        handed = list(dyes)
        with self.assertRaises(Odd) as caught:
            land_dyes(Web(turns), handed, first)
        self.assertEqual(caught.exception.point, point)
        self.assertEqual(handed, dyes)

    def test_all_ties_dyes_of_small_webs(self):
        fits = 0
        for turns in ([[1], [0]], path(3), cycle(3), cycle(4), HANGING, fan(4), K4_PLANE):
            for dyes in itertools.product([1, 2, 3], repeat=len(ties_of(turns))):
                sums = sums_at_points(turns, dyes)
                for first in range(4):
                    if any(sums):
                        self.odd(turns, list(dyes), first, min(p for p, left in enumerate(sums) if left))
                    else:
                        told = land_dyes(Web(turns), list(dyes), first)
                        self.assertEqual(told[0], first)
                        self.assertEqual(tie_dyes(Web(turns), told), list(dyes))
                        fits += 1
        self.assertGreater(fits, 20)

    def test_one_tie_spoiled(self):
        points = set()
        for number, turns in enumerate(some_webs()):
            dyes = some_land_dyes(turns, Picker(number))
            if alike_ties(turns, dyes):
                continue
            ties = sorted(ties_of(turns))
            for place, tie in enumerate(ties):
                told = tie_dyes(Web(turns), dyes)
                told[place] = told[place] % 3 + 1
                self.odd(turns, told, 0, tie[0])
                points.add(tie[0])
        self.assertGreater(len(points), 8)

    def test_not_plane_goes_ahead_of_odd(self):
        for turns in NOT_PLANE:
            ties = len(ties_of(turns))
            for dyes in ([1] * ties, [2] + [1] * (ties - 1), [3] * ties):
                for first in range(4):
                    with self.assertRaises(NotPlane) as caught:
                        land_dyes(Web(turns), dyes, first)
                    self.assertEqual(caught.exception.counted, (len(turns), ties, len(lands_of(turns))))

    def test_trees_have_odd_points_only(self):
        for turns in ([[1], [0]], path(6), star(9)):
            point = min(p for p, row in enumerate(turns) if len(row) % 2)
            self.odd(turns, [1 for _ in ties_of(turns)], 2, point)


class Crossed(unittest.TestCase):
    def check(self, turns):
        """The crossed web's turns."""
        web = Web(turns)
        made = crossed(web)
        self.assertEqual(web.turns(), turns)
        self.assertIsInstance(made, Web)
        rows = made.turns()
        land_of = sides_by_land(turns)
        self.assertEqual(len(rows), len(lands_of(turns)))
        for land, row in zip(lands_of(turns), rows):
            self.assertEqual(row, [land_of[q, p] for p, q in sides_of(land)])
        self.assertEqual(short_of_plane(rows), 0)
        around = [[land_of[p, q] for q in row] for p, row in enumerate(turns)]
        told = lands_of(rows)
        self.assertEqual(len(told), len(turns))
        for ring in around:
            self.assertEqual(len([land for land in told if land in rotations(ring)]), 1)
        self.twice(turns, rows, around)
        return rows

    def twice(self, turns, rows, around):
        """Crossed twice it is the web again, its points in the order of the crossed web's lands."""
        again = crossed(Web(rows)).turns()
        point_of = [
            [p for p, ring in enumerate(around) if land in rotations(ring)][0] for land in lands_of(rows)
        ]
        self.assertEqual(sorted(point_of), list(range(len(turns))))
        for land, row in enumerate(again):
            self.assertIn([point_of[other] for other in row], rotations(turns[point_of[land]]))

    def test_some(self):
        self.assertEqual(crossed(Web(K4_PLANE)).turns(), [[1, 3, 2], [2, 3, 0], [0, 3, 1], [1, 2, 0]])
        self.assertEqual(crossed(Web([[]])).turns(), [[]])

    def test_wheels_and_others(self):
        for rim in range(3, 14):
            self.assertEqual(sorted(len(row) for row in self.check(wheel(rim))), [3] * rim + [rim])
        self.assertEqual({len(row) for row in self.check(CUBE)}, {4})
        for rim in range(3, 8):
            self.assertEqual({len(row) for row in self.check(bipyramid(rim))}, {3})

    def test_filled_in_webs_and_thinner_ones(self):
        told = 0
        for many in range(4, 10):
            for start in range(12):
                picker = Picker(start)
                turns = filled_turns(many, start)
                self.assertEqual({len(row) for row in self.check(turns)}, {3})
                thin = thinned(turns, 2, start)
                order = picker.some(range(many), many)
                for each in (thin, turned(renamed(thin, order), picker)):
                    if min(len(row) for row in each) >= 3 and not self.refusal_due(each):
                        self.check(each)
                        told += 1
        self.assertGreater(told, 10)

    def test_fourteen_lands(self):
        self.assertEqual(len(self.check(filled_turns(9, 4))), 14)
        self.assertEqual(len(self.check(wheel(13))), 14)

    def refusal_due(self, turns):
        """The refusal that is due, and its fields, by the words; None if there is none."""
        if short_of_plane(turns):
            return (NotPlane, {"counted": (len(turns), len(ties_of(turns)), len(lands_of(turns)))})
        land_of = sides_by_land(turns)
        pairs = []
        for a, b in sorted(ties_of(turns)):
            if land_of[a, b] == land_of[b, a]:
                return (Bridge, {"tie": (a, b)})
            pairs.append((min(land_of[a, b], land_of[b, a]), max(land_of[a, b], land_of[b, a])))
        for one, other in sorted(pairs):
            if pairs.count((one, other)) > 1:
                return (Shared, {"one": one, "other": other})
        return (TooMany, {}) if len(lands_of(turns)) > 14 else None

    def refused(self, error, turns):
        due, fields = self.refusal_due(turns)
        self.assertIs(due, error)
        web = Web(turns)
        with self.assertRaises(error) as caught:
            crossed(web)
        for name, value in fields.items():
            self.assertEqual(getattr(caught.exception, name), value)
        self.assertEqual(web.turns(), turns)
        return fields

    def test_not_plane(self):
        for turns in NOT_PLANE:
            self.refused(NotPlane, turns)

    def test_bridges(self):
        for many in range(2, 15):
            self.assertEqual(self.refused(Bridge, path(many)), {"tie": (0, 1)})
            self.assertEqual(self.refused(Bridge, star(many)), {"tie": (0, 1)})
        self.assertEqual(self.refused(Bridge, HANGING), {"tie": (0, 3)})
        with self.assertRaises(Bridge) as caught:
            crossed(Web(HANGING))
        self.assertIs(type(caught.exception.tie), tuple)

    def test_shared(self):
        for many in range(3, 15):
            self.assertEqual(self.refused(Shared, cycle(many)), {"one": 0, "other": 1})
        self.refused(Shared, fan(4))
        self.refused(Shared, fan(9))
        met = set()
        for many in (5, 6, 7, 8):
            for start in range(20):
                turns = thinned(filled_turns(many, start), 2 + start % 4, start)
                due = self.refusal_due(turns)
                if due is not None and due[0] is Shared:
                    fields = self.refused(Shared, turns)
                    met.add((fields["one"], fields["other"]))
        self.assertGreater(len(met), 8)

    def test_too_many(self):
        for many in range(10, 15):
            for start in range(3):
                self.refused(TooMany, filled_turns(many, start))

    def hung(self, turns, p):
        """A further point, tied to p alone."""
        return [row + [len(turns)] if q == p else list(row) for q, row in enumerate(turns)] + [[p]]

    def put_on_tie(self, turns, a, b):
        """A further point on a tie, so that the lands on both its sides have two ties in common."""
        new = len(turns)
        changed = {a: b, b: a}
        return [[new if q == changed.get(p) else q for q in row] for p, row in enumerate(turns)] + [[a, b]]

    def test_several_at_once(self):
        great = filled_turns(12, 1)
        self.refused(Shared, self.put_on_tie(great, *sorted(ties_of(great))[7]))
        self.refused(Bridge, self.hung(great, 5))
        self.refused(Bridge, self.hung(self.put_on_tie(great, *sorted(ties_of(great))[3]), 11))
        self.refused(Bridge, self.hung(cycle(5), 3))
        self.refused(NotPlane, self.hung(K4_TORUS, 2))
        self.refused(NotPlane, self.hung(self.put_on_tie(whole(8), 2, 6), 3))

    def test_all_small_webs(self):
        for turns in itertools.islice(small_plane_turns(5), 0, None, 2):
            due = self.refusal_due(turns)
            if due is None:
                if len(turns) > 1:
                    self.check(turns)
            else:
                self.refused(due[0], turns)

    def test_the_same_again(self):
        web = Web(CUBE)
        first = crossed(web).turns()
        again = copy.deepcopy(first)
        first.clear()
        self.assertEqual(crossed(web).turns(), again)


if __name__ == "__main__":
    unittest.main()
