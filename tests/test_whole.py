"""The whole, from a text to a dyeing led to another one (point 4)."""

import unittest

from dyewalk import DeedsWalk, is_dyeing, walk_led
from mapdye.chains import chain, exchanged
from mapdye.crossing import crossed, land_dyes, tie_dyes
from mapdye.errors import Bridge, Shared
from mapdye.filling import filled
from mapdye.fives import five_dyes
from mapdye.lands import is_plane, lands
from mapdye.leading import led
from mapdye.listed import five_listed
from mapdye.searching import is_paper, searched
from mapdye.threes import three_dyes
from mapdye.ways import ways_by
from mapdye.webs import Web
from mapdye.webtexts import read_web, show_web
from samples import (
    CUBE, K4_PLANE, K4_TORUS, Picker, bipyramid, cycle, even_turns, fan, filled_turns, path, star, thinned, ties_of,
    two_parts, wheel, whole,
)


def plane_webs(most):
    webs = [path(5), star(6), cycle(5), cycle(8), fan(7), wheel(6), CUBE, K4_PLANE, bipyramid(5), bipyramid(6)]
    webs += [filled_turns(many, start) for many in range(3, most + 1) for start in range(3)]
    webs += [thinned(turns, 5, 1) for turns in webs]
    return [turns for turns in webs if len(turns) <= most]


class FromATextToADyeingLed(unittest.TestCase):
    def test_it(self):
        for number, turns in enumerate(plane_webs(10)):
            web = read_web(show_web(Web(turns)))
            self.assertEqual(web.turns(), turns)
            whole_web, ties = filled(web)
            self.assertEqual(len(ties_of(turns)) + len(ties), 3 * len(turns) - 6)
            rows = whole_web.turns()
            picker = Picker(number)
            by_lists = five_listed(whole_web, [picker.some(range(7), 5) for _ in rows])[0]
            by_chains, order, deeds = five_dyes(whole_web)
            for dyeing in (by_lists, by_chains):
                self.assertTrue(is_dyeing(rows, dyeing))
            walk = DeedsWalk(self, rows, [None for _ in rows], 5)
            for p in reversed(order):
                walk.given(p, deeds)
            self.assertEqual((walk.dyeing, deeds), (by_chains, []))
            for each in (web, whole_web):
                walk_led(self, each.turns(), by_lists, by_chains, 7, led(each, by_lists, by_chains, 7))
                walk_led(self, each.turns(), by_chains, by_lists, 7, led(each, by_chains, by_lists, 7))
                self.assertEqual(led(each, by_lists, by_lists, 7), [])

    def test_a_chain_exchanged_is_led_to_as_well(self):
        for turns in plane_webs(10):
            web = Web(turns)
            dyeing = five_dyes(web)[0]
            for dye in range(5):
                if dye != dyeing[0]:
                    other = exchanged(dyeing, chain(web, dyeing, 0, dye), dyeing[0], dye)
                    walk_led(self, turns, dyeing, other, 7, led(web, dyeing, other, 7))


class WaysAndTheSearch(unittest.TestCase):
    def test_there_is_a_way_where_the_search_tells_one(self):
        words = []
        webs = plane_webs(8) + [K4_TORUS, whole(5), whole(8), two_parts(3, 4), [[]], [[1], [0]]]
        for turns in webs:
            web = Web(turns)
            for many in range(5):
                lists = [list(range(many)) for _ in turns]
                word, told = searched(web, lists)
                words.append(word)
                self.assertEqual(word == "dyed", ways_by(web, many) > 0)
                if word == "dyed":
                    self.assertTrue(is_dyeing(turns, told))
                else:
                    self.assertTrue(is_paper(web, lists, told))
        self.assertGreater(min(words.count("dyed"), words.count("none")), 30)

    def test_three_dyes_of_filled_in_webs(self):
        webs = [filled_turns(many, start) for many in range(3, 9) for start in range(5)]
        webs += [turns for turns in map(even_turns, range(30)) if len(turns) <= 8]
        words = set()
        for turns in webs:
            web = Web(turns)
            word = three_dyes(web)[0]
            words.add(word)
            self.assertEqual(word == "dyed", searched(web, [[0, 1, 2] for _ in turns])[0] == "dyed")
            # Once three points of a land are dyed, there is no choice left.
            self.assertEqual(ways_by(web, 3), 6 if word == "dyed" else 0)
        self.assertEqual(words, {"dyed", "wheel"})


class LandsAndTies(unittest.TestCase):
    def test_the_crossed_web_dyed_its_ties_dyed_and_led_back(self):
        dyed = 0
        for turns in plane_webs(8):
            web = Web(turns)
            try:
                beyond = crossed(web)
            except (Bridge, Shared):
                continue
            if beyond.many() > 8:
                continue
            self.assertTrue(is_plane(beyond))
            self.assertEqual(len(lands(beyond)), len(turns))
            word, dyes = searched(beyond, [[0, 1, 2, 3] for _ in range(beyond.many())])
            self.assertEqual(word, "dyed")
            told = tie_dyes(web, dyes)
            self.assertEqual(land_dyes(web, told, dyes[0]), dyes)
            # The points of the web are the lands of the crossed one, so its ties are dyed likewise.
            word, dyes = searched(web, [[0, 1, 2, 3] for _ in turns])
            self.assertEqual(word, "dyed")
            point_of = self.points_of_lands(web, beyond)
            by_land = [dyes[p] for p in point_of]
            self.assertEqual(land_dyes(beyond, tie_dyes(beyond, by_land), by_land[0]), by_land)
            dyed += 1
        self.assertGreater(dyed, 5)

    def points_of_lands(self, web, beyond):
        """For each land of the crossed web the point around which it stands."""
        told = lands(web)
        around = [{number for number, land in enumerate(told) if p in land} for p in range(web.many())]
        return [around.index(set(land)) for land in lands(beyond)]

    def test_five_dyes_of_the_crossed_web(self):
        for turns in [wheel(13), wheel(6), CUBE] + [filled_turns(9, start) for start in range(6)]:
            beyond = crossed(Web(turns))
            self.assertTrue(is_dyeing(beyond.turns(), five_dyes(beyond)[0]))


if __name__ == "__main__":
    unittest.main()
