"""One dyeing led to another one (points 2, 4 and 29)."""

import itertools
import unittest

from dyewalk import all_dyeings, some_dyeing, walk_led
from mapdye.errors import NotPlane, TooFew, TooMany
from mapdye.leading import led
from mapdye.webs import Web
from samples import (
    CUBE, K4_PLANE, K4_TORUS, Picker, bipyramid, cycle, even_turns, fan, filled_turns, lands_of, path,
    small_plane_turns, star, thinned, ties_of, two_parts, wheel, whole,
)

FAR = 10 ** 60 - 1


class Led(unittest.TestCase):
    def check(self, turns, one, other, many):
        """How many tuples are told."""
        web = Web(turns)
        handed = [list(one), list(other)]
        told = led(web, handed[0], handed[1], many)
        self.assertEqual((handed, web.turns()), ([list(one), list(other)], turns))
        walk_led(self, turns, one, other, many, told)
        if list(one) == list(other):
            self.assertEqual(told, [])
        return len(told)

    def test_one_point(self):
        self.assertEqual(led(Web([[]]), [3], [5], 7), [(0, 5)])
        self.assertEqual(led(Web([[]]), [3], [3], 7), [])
        self.assertEqual(led(Web([[]]), [0], [FAR - 1], FAR), [(0, FAR - 1)])

    def test_two_points(self):
        pairs = list(itertools.permutations(range(7), 2))
        for one, other in itertools.product(pairs, repeat=2):
            self.check([[1], [0]], one, other, 7)
        # Dyes that change places need a third one.
        self.assertEqual(self.check([[1], [0]], [0, 1], [1, 0], 7), 3)

    def test_all_pairs_of_few_dyes(self):
        for turns in (path(3), cycle(3), cycle(4), K4_PLANE):
            dyeings = all_dyeings(turns, [range(4) for _ in turns])
            for one, other in itertools.product(dyeings, repeat=2):
                self.check(turns, one, other, 7)

    def test_small_webs(self):
        for number, turns in enumerate(itertools.islice(small_plane_turns(5), 0, None, 3)):
            picker = Picker(number)
            for many in (7, 8):
                self.check(turns, some_dyeing(turns, many, picker), some_dyeing(turns, many, picker), many)

    def test_greater_webs(self):
        webs = [CUBE, wheel(7), wheel(9), bipyramid(5), bipyramid(8), fan(10), path(10), star(10), cycle(10), cycle(9)]
        webs += [filled_turns(many, start) for many in range(6, 11) for start in range(12)]
        webs += [turns for turns in map(even_turns, range(30)) if len(turns) <= 10]
        webs += [thinned(turns, 6, 1) for turns in webs if len(turns) > 5]
        longest = 0
        for number, turns in enumerate(webs):
            picker = Picker(number)
            for many in (7, 7, 7, 8, 30):
                one, other = some_dyeing(turns, many, picker), some_dyeing(turns, many, picker)
                longest = max(longest, self.check(turns, one, other, many), self.check(turns, other, one, many))
                self.check(turns, one, one, many)
        # Else hardly any point would have had to give way.
        self.assertGreater(longest, 14)

    def test_dyes_that_go_round(self):
        for turns in [CUBE, bipyramid(8)] + [filled_turns(10, start) for start in range(30)]:
            one = some_dyeing(turns, 4, Picker(1))
            for shift in range(1, 7):
                for many in (7, 9):
                    self.check(turns, one, [(dye + shift) % 7 for dye in one], many)

    def test_unlike_dyes_at_all_points_exchanged(self):
        for start in range(40):
            turns = filled_turns(7, start)
            picker = Picker(start)
            self.check(turns, picker.some(range(7), 7), picker.some(range(7), 7), 7)

    def test_great_numbers_of_dyes(self):
        for turns in (wheel(9), filled_turns(10, 3)):
            dyes = [FAR - 1 - p for p in range(10)]
            self.check(turns, dyes, dyes[::-1], FAR)
            self.check(turns, dyes, list(range(10)), FAR)
            self.check(turns, list(range(10)), dyes, FAR)

    def test_told_lists_belong_to_whoever_asked(self):
        web = Web(K4_PLANE)
        one = [0, 1, 2, 3]
        other = [3, 2, 1, 0]
        first = led(web, one, other, 7)
        again = list(first)
        first.clear()
        self.assertEqual(led(web, one, other, 7), again)
        nothing = led(web, one, one, 7)
        nothing.append((0, 9))
        self.assertEqual(led(web, one, one, 7), [])
        self.assertEqual((one, other), ([0, 1, 2, 3], [3, 2, 1, 0]))


class Refused(unittest.TestCase):
    def refused(self, error, turns, many):
        """The refusal, whatever the dyeings are."""
        for one in ([], [None for _ in turns], [0 for _ in turns], list(range(len(turns)))):
            for other in ([], [None for _ in turns], list(range(len(turns)))):
                with self.assertRaises(error) as caught:
                    led(Web(turns), one, other, many)
        return caught.exception

    def test_too_many_goes_ahead_of_all(self):
        for turns in (path(11), cycle(14), wheel(10), filled_turns(11, 1), whole(11), two_parts(5, 6)):
            for many in (7, 8, 6, 0, FAR):
                self.refused(TooMany, turns, many)

    def test_not_plane_goes_ahead_of_too_few(self):
        for turns in (K4_TORUS, whole(5), whole(10), two_parts(3, 3)):
            for many in (7, 8, 6, 0, FAR):
                refusal = self.refused(NotPlane, turns, many)
                self.assertEqual(refusal.counted, (len(turns), len(ties_of(turns)), len(lands_of(turns))))

    def test_too_few(self):
        for turns in ([[]], [[1], [0]], CUBE, wheel(5), filled_turns(10, 1)):
            for many in range(7):
                self.assertEqual(self.refused(TooFew, turns, many).point, 0)

    def test_too_few_though_nothing_is_to_be_done(self):
        with self.assertRaises(TooFew) as caught:
            led(Web(CUBE), [0, 1, 0, 1, 1, 0, 1, 0], [0, 1, 0, 1, 1, 0, 1, 0], 6)
        self.assertEqual(caught.exception.point, 0)

    def test_ten_points_are_not_too_many(self):
        turns = filled_turns(10, 2)
        one, other = some_dyeing(turns, 7, Picker(1)), some_dyeing(turns, 7, Picker(2))
        walk_led(self, turns, one, other, 7, led(Web(turns), one, other, 7))


if __name__ == "__main__":
    unittest.main()
