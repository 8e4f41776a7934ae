"""Chains, their exchange, and a point given a dye (points 2, 4, 8, 20 and 21)."""

import copy
import itertools
import unittest

from dyewalk import DeedsWalk, chain_by_the_words, greedy_dyeing, is_dyeing, some_dyeing
from mapdye.chains import chain, dye_given, exchanged
from mapdye.errors import NotFree, NotPlane
from mapdye.webs import Web
from samples import (
    CUBE, K4_PLANE, K4_TORUS, Picker, cycle, fan, filled_turns, lands_of, path, small_plane_turns, star,
    thinned, ties_of, two_parts, wheel, whole,
)

FAR = 10 ** 60 - 1
NOT_PLANE = [K4_TORUS, whole(5), whole(8), two_parts(3, 3), two_parts(4, 7)]


def some_webs():
    webs = [[[]], [[1], [0]], path(5), cycle(6), cycle(7), star(6), wheel(7), fan(8), CUBE, K4_PLANE]
    webs += [filled_turns(many, start) for many in (6, 10, 14) for start in range(3)]
    return webs + NOT_PLANE


class Chains(unittest.TestCase):
    def test_some_chains(self):
        for turns, dyeing, p, dye, told in (
            ([[]], [7], 0, 8, [0]),
            (path(5), [0, 1, 0, 1, 0], 2, 1, [0, 1, 2, 3, 4]),
            (path(5), [0, 1, 2, 1, 0], 0, 1, [0, 1]),
            (path(5), [0, 1, 2, 1, 0], 3, 0, [3, 4]),
            (path(5), [0, 1, 2, 1, 0], 2, 1, [1, 2, 3]),
            (path(5), [0, 1, 2, 1, 0], 2, 0, [2]),
            (path(5), [0, 1, None, 1, 0], 0, 1, [0, 1]),
            (cycle(6), [0, 1, 0, 1, 0, 2], 4, 1, [0, 1, 2, 3, 4]),
            (cycle(6), [0, 1, 2, 0, 1, 2], 5, 0, [0, 5]),
            (star(5), [0, 1, 2, 1, 1], 3, 0, [0, 1, 3, 4]),
            (star(5), [0, 1, 2, 1, 1], 3, 2, [3]),
        ):
            with self.subTest(turns=turns, dyeing=dyeing, p=p, dye=dye):
                self.assertEqual(chain(Web(turns), dyeing, p, dye), told)

    def test_a_way_goes_along_ties_only(self):
        # 0 and 2 have the chain's dyes and are not tied; what is between them has neither.
        self.assertEqual(chain(Web(path(3)), [0, 5, 1], 0, 1), [0])
        self.assertEqual(chain(Web(cycle(4)), [0, 5, 1, None], 2, 0), [2])

    def test_any_webs_point_by_point_and_dye_by_dye(self):
        lengths = set()
        for turns in some_webs():
            for start in range(4):
                dyeing = greedy_dyeing(turns, start)
                for p, own in enumerate(dyeing):
                    for dye in range(8):
                        if own is not None and dye != own:
                            handed = list(dyeing)
                            web = Web(turns)
                            told = chain(web, handed, p, dye)
                            self.assertIs(type(told), list)
                            self.assertEqual(told, chain_by_the_words(turns, dyeing, p, dye))
                            self.assertEqual((handed, web.turns()), (dyeing, turns))
                            lengths.add(len(told))
        self.assertGreater(len(lengths), 5)

    def test_a_dye_that_no_point_has(self):
        for turns in some_webs():
            dyeing = list(range(len(turns)))
            for p in range(len(turns)):
                self.assertEqual(chain(Web(turns), dyeing, p, 99), [p])
                self.assertEqual(chain(Web(turns), dyeing, p, -1), [p])

    def test_great_and_negative_dyes(self):
        for one, other in itertools.permutations([FAR, -FAR, FAR - 1, 0, -1], 2):
            dyeing = [one, other, one, 77, one, other]
            self.assertEqual(chain(Web(path(6)), dyeing, 0, other), [0, 1, 2])
            self.assertEqual(chain(Web(path(6)), dyeing, 5, one), [4, 5])
            self.assertEqual(exchanged(dyeing, [0, 1, 2], one, other), [other, one, other, 77, one, other])

    def test_told_lists_belong_to_whoever_asked(self):
        web = Web(path(4))
        dyeing = [0, 1, 0, 1]
        told = chain(web, dyeing, 0, 1)
        told.clear()
        self.assertEqual(chain(web, dyeing, 0, 1), [0, 1, 2, 3])
        self.assertEqual((dyeing, web.turns()), ([0, 1, 0, 1], path(4)))


class Exchanged(unittest.TestCase):
    def test_chains_exchanged_leave_a_dyeing_and_lead_back(self):
        changed = 0
        for turns in some_webs():
            for start in range(4):
                dyeing = greedy_dyeing(turns, start)
                for p, own in enumerate(dyeing):
                    for dye in range(6):
                        if own is None or dye == own:
                            continue
                        points = chain(Web(turns), dyeing, p, dye)
                        handed, handed_points = list(dyeing), list(points)
                        told = exchanged(handed, handed_points, own, dye)
                        self.assertEqual((handed, handed_points), (dyeing, points))
                        self.assertTrue(is_dyeing(turns, told))
                        self.assertEqual(told, [
                            old if q not in points else dye if old == own else own for q, old in enumerate(dyeing)
                        ])
                        self.assertEqual(exchanged(told, points, own, dye), dyeing)
                        self.assertEqual(exchanged(dyeing, points, dye, own), told)
                        self.assertEqual(chain(Web(turns), told, p, own), points)
                        changed += told != dyeing
        self.assertGreater(changed, 500)

    def test_other_points(self):
        dyeing = [0, 1, 2, None, 0, 1]
        self.assertEqual(exchanged(dyeing, [0, 2, 3, 5], 0, 1), [1, 1, 2, None, 0, 0])
        self.assertEqual(exchanged(dyeing, [5, 0], 1, 0), [1, 1, 2, None, 0, 0])
        self.assertEqual(exchanged(dyeing, [5, 4, 3, 2, 1, 0], 0, 2), [2, 1, 0, None, 2, 1])
        self.assertEqual(exchanged(dyeing, [2, 3], 0, 1), dyeing)
        self.assertEqual(exchanged(dyeing, [0, 1, 2], 8, 9), dyeing)
        self.assertEqual(exchanged(dyeing, [1, 2], 1, 9), [0, 9, 2, None, 0, 1])

    def test_all_points_of_small_dyeings(self):
        for dyeing in itertools.product([None, 0, 1, 2], repeat=4):
            for many in range(5):
                for points in itertools.permutations(range(4), many):
                    told = exchanged(list(dyeing), list(points), 2, 0)
                    self.assertEqual(told, [
                        {0: 2, 2: 0}.get(dye, dye) if p in points else dye for p, dye in enumerate(dyeing)
                    ])

    def test_none_gives_a_new_list(self):
        dyeing = [0, 1, None]
        for points in ([], [2]):
            told = exchanged(dyeing, points, 0, 1)
            self.assertEqual(told, [0, 1, None])
            told.append(5)
            told[0] = 9
            self.assertEqual(dyeing, [0, 1, None])
        self.assertEqual(exchanged([], [], 0, 1), [])


class DyeGiven(unittest.TestCase):
    def check(self, turns, dyeing, p, many):
        """The words of the deeds."""
        self.assertTrue(is_dyeing(turns, dyeing))
        web = Web(turns)
        handed = list(dyeing)
        told = dye_given(web, handed, p, many)
        self.assertEqual((handed, web.turns()), (dyeing, turns))
        self.assertIs(type(told), tuple)
        made, deeds = told
        self.assertIs(type(made), list)
        self.assertIs(type(deeds), list)
        words = [deed[0] for deed in deeds]
        walk = DeedsWalk(self, turns, dyeing, many)
        left = list(deeds)
        walk.given(p, left)
        self.assertEqual(left, [])
        self.assertEqual(walk.dyeing, made)
        again = copy.deepcopy(told)
        made.clear()
        deeds.clear()
        self.assertEqual(dye_given(web, handed, p, many), again)
        return words

    def test_a_dye_that_is_free(self):
        for turns, dyeing, p, many in (
            ([[]], [None], 0, 4), ([[]], [None], 0, FAR),
            ([[1], [0]], [0, None], 1, 4), ([[1], [0]], [None, None], 0, 4),
            (star(6), [None, 0, 1, 2, 0, 1], 0, 5), (star(6), [None, 4, 1, 2, 0, None], 0, 5),
            (star(14), [None] + list(range(13)), 0, 14), (star(14), [None] + list(range(13)), 0, FAR),
            (star(5), [None, 0, 0, 0, 0], 0, 4), (star(5), [None, 3, 2, 1, 3], 0, 4),
            (star(5), [None, 1, 2, 3, 1], 0, 4),
        ):
            self.assertEqual(self.check(turns, dyeing, p, many), ["give"])

    def test_the_one_dye_left(self):
        for many in range(4, 10):
            for missing in range(many):
                dyes = [dye for dye in range(many) if dye != missing]
                told, deeds = dye_given(Web(wheel(many)), dyes + [dyes[1], None], many, many)
                self.assertEqual((told, deeds), (dyes + [dyes[1], missing], [("give", many, missing)]))

    def test_any_plane_webs(self):
        for number, turns in enumerate(itertools.islice(small_plane_turns(5), 0, None, 3)):
            for p in range(len(turns)):
                dyeing = some_dyeing(turns, 4, Picker(number), (), [p])
                self.check(turns, dyeing, p, 4)
                self.check(turns, dyeing, p, 5)

    def test_all_dyes_around_in_any_turn(self):
        for many in (4, 5, 6):
            for dyes in itertools.permutations(range(many)):
                if many == 6 and dyes[0] != 3:
                    continue
                for turns in (wheel(many), star(many + 1)):
                    p = many if turns == wheel(many) else 0
                    dyeing = list(dyes)
                    dyeing.insert(p, None)
                    self.assertEqual(self.check(turns, dyeing, p, many), ["exchange", "give"])
        for many in range(7, 14):
            picker = Picker(many)
            for _ in range(5):
                dyeing = picker.some(range(many), many) + [None]
                self.assertEqual(self.check(wheel(many), dyeing, many, many), ["exchange", "give"])

    def test_a_chain_that_leads_from_one_neighbour_to_the_one_across(self):
        # Beyond the rim a way goes from 0 to 2, so that chain frees no dye; that of 1 and 3 does.
        turns = [[1, 4, 3, 5], [2, 4, 0], [3, 4, 1, 6], [0, 4, 2], [0, 1, 2, 3], [0, 6], [5, 2]]
        for one, two, three, four in itertools.permutations(range(4)):
            dyeing = [one, two, three, four, None, three, one]
            self.assertEqual(chain(Web(turns), dyeing, 0, three), [0, 2, 5, 6])
            self.assertEqual(self.check(turns, dyeing, 4, 4), ["exchange", "give"])

    def test_filled_in_webs_with_all_dyes_around_a_point(self):
        words, held = [], [0, 0]
        webs = [filled_turns(many, start) for many in range(6, 15) for start in range(6)]
        webs += [thinned(turns, 8, start) for start, turns in enumerate(webs)]
        for number, turns in enumerate(webs):
            for p, near in enumerate(turns):
                if 4 <= len(near) <= 7:
                    picker = Picker(number)
                    for _ in range(2):
                        dyeing = some_dyeing(turns, len(near), picker, near, [p])
                        if dyeing is None:
                            continue
                        words += self.check(turns, dyeing, p, len(near))
                        for at in range(2):
                            reached = chain_by_the_words(turns, dyeing, near[at], dyeing[near[at + 2]])
                            held[at] += near[at + 2] in reached
        self.assertGreater(words.count("exchange"), 200)
        # Else the first chain looked at would always have done.
        self.assertGreater(min(held), 20)

    def test_some_neighbours_without_a_dye(self):
        words = []
        for number in range(60):
            turns = filled_turns(9 + number % 6, number)
            for p, near in enumerate(turns):
                if len(near) >= 6:
                    picker = Picker(number)
                    bare = picker.some(near, len(near) - 4 - number % 2)
                    apart = [q for q in near if q not in bare]
                    dyeing = some_dyeing(turns, len(apart), picker, apart, [p] + bare)
                    if dyeing is not None:
                        words += self.check(turns, dyeing, p, len(apart))
        self.assertGreater(words.count("exchange"), 30)

    def test_more_dyes_than_neighbours(self):
        for many in (7, 8, 20, FAR):
            for dyes in itertools.permutations(range(6)):
                if dyes[:2] == (5, 0):
                    self.assertEqual(self.check(wheel(6), list(dyes) + [None], 6, many), ["give"])

    def test_fewer_dyes_than_are_promised_raise_nothing(self):
        web = Web(K4_PLANE)
        self.assertEqual(dye_given(web, [0, 1, None, None], 2, 3), ([0, 1, 2, None], [("give", 2, 2)]))
        told, deeds = dye_given(web, [0, 1, 2, None], 3, 3)
        self.assertEqual((told, deeds), ([0, 1, 2, None], []))
        self.check(star(4), [None, 0, 1, 2], 0, 3)


class Refused(unittest.TestCase):
    def test_not_plane_goes_ahead(self):
        for turns in NOT_PLANE:
            counted = (len(turns), len(ties_of(turns)), len(lands_of(turns)))
            all_dyed = list(range(len(turns)))
            for dyeing in ([None for _ in turns], all_dyed, [None] + all_dyed[1:]):
                for many in (4, 5, 99):
                    with self.assertRaises(NotPlane) as caught:
                        dye_given(Web(turns), dyeing, 0, many)
                    self.assertEqual(caught.exception.counted, counted)

    def not_free(self, turns, dyeing, p, many):
        handed = list(dyeing)
        with self.assertRaises(NotFree) as caught:
            dye_given(Web(turns), handed, p, many)
        self.assertEqual(caught.exception.point, p)
        self.assertEqual(handed, dyeing)

    def test_a_point_that_has_a_dye(self):
        for turns in ([[]], path(4), CUBE, wheel(6), filled_turns(12, 1)):
            dyeing = some_dyeing(turns, 4, Picker(3))
            for p in range(len(turns)):
                for many in (4, 5, FAR):
                    self.not_free(turns, dyeing, p, many)
        # A dye of 0 is one, too.
        self.not_free([[1], [0]], [None, 0], 1, 4)

    def test_more_neighbours_with_a_dye_than_dyes(self):
        for many in range(4, 13):
            turns = star(many + 2)
            for dyes in ([0] * (many + 1), [p % many for p in range(many + 1)]):
                self.not_free(turns, [None] + dyes, 0, many)
                # With one of them bare they are no more than the dyes.
                told, deeds = dye_given(Web(turns), [None] + dyes[:-1] + [None], 0, many)
                self.assertEqual(deeds[-1][:2], ("give", 0))

    def test_a_dye_would_be_free_but_neighbours_are_too_many(self):
        self.not_free(wheel(6), [0, 1, 0, 1, 0, 1, None], 6, 4)
        self.not_free(wheel(6), [0, 1, 0, 1, 0, 1, None], 6, 5)
        self.assertEqual(dye_given(Web(wheel(6)), [0, 1, 0, 1, 0, 1, None], 6, 6)[1][0][:2], ("give", 6))

    def test_neighbours_without_a_dye_do_not_count(self):
        self.assertEqual(dye_given(Web(star(14)), [None] * 14, 0, 4)[1][0][:2], ("give", 0))


if __name__ == "__main__":
    unittest.main()
