"""Search from lists, and papers (points 2, 4, 8 and 23)."""

import copy
import itertools
import unittest

from dyewalk import PaperWalk, all_dyeings, is_dyeing, is_paper_by_the_words, other_paper
from mapdye.errors import TooMany
from mapdye.searching import is_paper, searched
from mapdye.webs import Web
from samples import (
    CUBE, K4_PLANE, K4_TORUS, Picker, cycle, fan, filled_turns, path, small_plane_turns, star, thinned, two_parts,
    wheel, whole,
)

FAR = 10 ** 60 - 1


def some_webs():
    webs = [[[]], [[1], [0]], path(3), path(6), cycle(3), cycle(5), cycle(7), star(6), wheel(4), wheel(5), wheel(7)]
    webs += [fan(6), CUBE, K4_PLANE, K4_TORUS, whole(5), whole(6), whole(8), two_parts(3, 3), two_parts(2, 4)]
    webs += [filled_turns(many, start) for many in (5, 6, 7, 8) for start in range(2)]
    return webs + [thinned(filled_turns(8, 4), 6, 1)]


def some_lists(turns, picker, most, dyes):
    """Lists of up to so many dyes, in no order, mostly of the longest."""
    return [picker.some(dyes, most - (picker.below(most + 1) if picker.below(4) == 0 else 0)) for _ in turns]


def without_dyeing():
    """Webs and lists of which there is no dyeing."""
    found = [
        ([[]], [[]]), ([[1], [0]], [[5], [5]]),
        ([[1], [0]], [[], [5]]), ([[1], [0]], [[5], []]), ([[1], [0]], [[], []]),
        (path(3), [[1], [1, 2], [2]]), (path(3), [[FAR], [-FAR, FAR], [-FAR]]), (cycle(3), [[1, 2]] * 3),
        (cycle(5), [[2, 1]] * 5), (K4_PLANE, [[1, 2, 3]] * 4), (K4_TORUS, [[3, 1, 2]] * 4),
        (whole(5), [[1, 2, 3, 4]] * 5), (whole(5), [[4, 2, 3, 1], [1, 2, 3, 4], [2, 1, 4, 3], [3, 4, 1, 2], [1, 4, 3]]),
        (whole(8), [[1, 2, 3, 4]] * 8), (wheel(5), [[0, 1, 2]] * 6), (wheel(7), [[0, 1, 2]] * 8),
        (two_parts(2, 4), [[1, 2], [3, 4], [1, 3], [1, 4], [2, 3], [2, 4]]),
    ]
    for number, turns in enumerate(some_webs()):
        picker = Picker(number)
        for dyes in (range(2), range(3), range(4)):
            for _ in range(6):
                lists = some_lists(turns, picker, min(3, len(dyes)), dyes)
                if not all_dyeings(turns, lists):
                    found.append((turns, lists))
    return [(turns, [list(row) for row in lists]) for turns, lists in found]


class Searched(unittest.TestCase):
    def check(self, turns, lists):
        """The word told."""
        web = Web(turns)
        handed = copy.deepcopy(lists)
        told = searched(web, handed)
        self.assertEqual((handed, web.turns()), (lists, turns))
        self.assertIs(type(told), tuple)
        self.assertEqual(len(told), 2)
        if told[0] == "dyed":
            self.assertIs(type(told[1]), list)
            self.assertTrue(is_dyeing(turns, told[1]))
            for p, dye in enumerate(told[1]):
                self.assertIn(dye, lists[p])
        else:
            self.assertEqual(told[0], "none")
            PaperWalk(self, turns, lists).walk(told[1], {})
            self.assertIs(is_paper(web, handed, told[1]), True)
            self.assertEqual((handed, web.turns()), (lists, turns))
        return told[0]

    def test_some_papers(self):
        for turns, lists, paper in (
            ([[]], [[]], ("full", 0)),
            ([[1], [0]], [[5], [5]], ("choose", 0, (("full", 1),))),
            ([[1], [0]], [[5], []], ("full", 1)),
            ([[1], [0]], [[], []], ("full", 0)),
            (path(3), [[1], [1, 2], [2]], ("choose", 0, (("choose", 1, (None, ("full", 2))),))),
            (path(3), [[1], [2, 1], [2]], ("choose", 0, (("choose", 1, (("full", 2), None)),))),
            (path(3), [[1, 2], [1, 2], []], ("full", 2)),
            (cycle(3), [[1, 2], [1, 2], [1, 2]], ("choose", 0, (
                ("choose", 1, (None, ("full", 2))), ("choose", 1, (("full", 2), None)),
            ))),
            (cycle(3), [[1, 2], [1, 2], [2]], ("choose", 2, (("choose", 0, (("full", 1), None)),))),
        ):
            with self.subTest(turns=turns, lists=lists):
                self.assertEqual(searched(Web(turns), lists), ("none", paper))

    def test_the_fewest_dyes_left_not_the_shortest_list(self):
        # With 1 dyed 1, of 0's four dyes three are left, of 2's three two.
        turns, lists = path(3), [[1, 2, 3, 4], [1], [1, 2, 3]]
        self.assertEqual(self.check(turns, lists), "dyed")
        turns = [[1, 2, 3], [0], [0], [0, 4], [3]]
        self.assertEqual(self.check(turns, [[5, 6], [5], [6], [1, 2], [1]]), "none")

    def test_against_all_dyeings(self):
        words = []
        for number, turns in enumerate(some_webs()):
            picker = Picker(number + 100)
            for most, many in ((0, 2), (1, 3), (2, 3), (3, 3), (3, 4), (4, 4)):
                if most == 4 and len(turns) > 7:
                    continue
                lists = some_lists(turns, picker, most, range(many))
                word = self.check(turns, lists)
                self.assertEqual(word == "dyed", bool(all_dyeings(turns, lists)))
                words.append(word)
        self.assertGreater(min(words.count("dyed"), words.count("none")), 20)

    def test_all_lists_of_small_webs(self):
        rows = [list(row) for many in range(3) for row in itertools.permutations(range(2), many)] + [[0, 1, 2], [2]]
        for turns in ([[]], [[1], [0]], path(3), cycle(3)):
            for lists in itertools.product(rows, repeat=len(turns)):
                lists = [list(row) for row in lists]
                self.assertEqual(self.check(turns, lists) == "dyed", bool(all_dyeings(turns, lists)))

    def test_two_dyes_of_all_small_webs(self):
        for turns in itertools.islice(small_plane_turns(5), 0, None, 5):
            for row in ([0, 1], [1, 0, 2], [3, 2, 0, 1]):
                lists = [row for _ in turns]
                self.assertEqual(self.check(turns, lists) == "dyed", bool(all_dyeings(turns, lists)))

    def test_four_dyes_of_eight_points(self):
        for turns in (CUBE, wheel(7), cycle(8), filled_turns(8, 1), filled_turns(8, 2)):
            self.assertEqual(self.check(turns, [[3, 1, 0, 2] for _ in turns]), "dyed")
        self.assertEqual(self.check(whole(8), [[0, 1, 2, 3] for _ in range(8)]), "none")
        self.assertEqual(self.check(whole(8), [[p % 2 * 4 + k for k in range(4)] for p in range(8)]), "dyed")

    def test_great_and_negative_dyes(self):
        self.assertEqual(searched(Web(path(2)), [[FAR], [FAR, -FAR]]), ("dyed", [FAR, -FAR]))
        self.assertEqual(searched(Web(path(2)), [[-FAR], [-FAR]])[0], "none")
        self.assertEqual(self.check(cycle(5), [[FAR, FAR - 1] for _ in range(5)]), "none")

    def test_nine_points(self):
        for turns in (path(9), cycle(9), wheel(8), whole(9), filled_turns(14, 1)):
            for row in ([], [1], [1, 2, 3, 4]):
                self.assertRaises(TooMany, searched, Web(turns), [list(row) for _ in turns])
        self.assertEqual(self.check(path(8), [[1, 2] for _ in range(8)]), "dyed")

    def test_asked_again_it_tells_the_same_whatever_became_of_the_first(self):
        for turns, lists in ((CUBE, [[1, 2] for _ in range(8)]), ([[]], [[7, 8]]), (cycle(5), [[1, 2]] * 5)):
            first = searched(Web(turns), lists)
            again = copy.deepcopy(first)
            if first[0] == "dyed":
                first[1].clear()
            second = searched(Web(turns), lists)
            self.assertEqual(second, again)
            lists[0].clear()
            self.assertEqual(second, again)


def spoiled(paper, many):
    """The paper with something else in the place of each of its parts, one at a time."""
    yield None
    for p in list(range(-1, many + 2)) + [10 ** 60]:
        yield ("full", p)
        if p != paper[1]:
            yield (paper[0], p) + paper[2:]
    if paper[0] == "full":
        yield ("choose", paper[1], ())
        yield ("choose", paper[1], (None,))
        return
    papers = paper[2]
    yield ("choose", paper[1], papers[:-1])
    yield ("choose", paper[1], papers[1:])
    yield ("choose", paper[1], papers + (None,))
    yield ("choose", paper[1], papers + papers[-1:])
    yield ("choose", paper[1], ())
    for one, other in itertools.combinations(range(len(papers)), 2):
        turned = list(papers)
        turned[one], turned[other] = papers[other], papers[one]
        yield ("choose", paper[1], tuple(turned))
    for place, held in enumerate(papers):
        others = [("full", 0), ("full", paper[1]), paper] if held is None else spoiled(held, many)
        for other in others:
            yield ("choose", paper[1], papers[:place] + (other,) + papers[place + 1:])


class Papers(unittest.TestCase):
    def check(self, turns, lists, paper):
        web = Web(turns)
        handed = copy.deepcopy(lists)
        told = is_paper(web, handed, paper)
        self.assertIs(told, is_paper_by_the_words(turns, lists, paper, {}), (turns, lists, paper))
        self.assertEqual((handed, web.turns()), (lists, turns))
        return told

    def test_papers_that_choose_other_points(self):
        others = 0
        for number, (turns, lists) in enumerate(without_dyeing()):
            if len(turns) == 8 and sum(len(row) for row in lists) > 20:
                continue
            told = searched(Web(turns), lists)[1]
            self.assertTrue(self.check(turns, lists, told))
            for start in range(4):
                paper = other_paper(turns, lists, Picker(number * 10 + start), {})
                others += paper != told
                self.assertTrue(self.check(turns, lists, paper))
        self.assertGreater(others, 200)

    def test_papers_spoiled_at_each_place(self):
        words = []
        for number, (turns, lists) in enumerate(without_dyeing()):
            told = searched(Web(turns), lists)[1]
            for paper in (told, other_paper(turns, lists, Picker(number), {})):
                for other in itertools.islice(spoiled(paper, len(turns)), 600):
                    words.append(self.check(turns, lists, other))
        self.assertGreater(words.count(False), 5000)
        # Some papers stay papers: with another point that is full as well, with two like ones exchanged.
        self.assertGreater(words.count(True), 50)

    def test_some_that_are_none(self):
        turns, lists = path(3), [[1], [1, 2], [2]]
        good = ("choose", 0, (("choose", 1, (None, ("full", 2))),))
        self.assertTrue(self.check(turns, lists, good))
        for paper in (
            None,
            ("full", 0), ("full", 1), ("full", 2), ("full", 3), ("full", -1), ("full", FAR),
            ("choose", 0, (None,)),
            ("choose", 0, ()),
            ("choose", 0, (("full", 1),)),
            ("choose", 0, (("full", 0),)),
            ("choose", 3, (("choose", 1, (None, ("full", 2))),)),
            ("choose", -3, (("choose", 1, (None, ("full", 2))),)),
            ("choose", 0, (("choose", 1, (("full", 2), None)),)),
            ("choose", 0, (("choose", 1, (None, None)),)),
            ("choose", 0, (("choose", 1, (("full", 2), ("full", 2))),)),
            ("choose", 0, (("choose", 1, (None, ("full", 0))),)),
            ("choose", 0, (("choose", 1, (None, ("full", -1))),)),
            ("choose", 0, (("choose", 1, (None, ("full", 2), None)),)),
            ("choose", 0, (("choose", 1, (None,)),)),
            ("choose", 0, (("choose", 1, (None, ("full", 2))), None)),
            ("choose", 0, (("choose", 0, (("choose", 1, (None, ("full", 2))),)),)),
        ):
            self.assertFalse(self.check(turns, lists, paper))

    def test_other_points_chosen(self):
        turns, lists = path(3), [[1], [1, 2], [2]]
        for paper in (
            ("choose", 0, (("choose", 2, (("full", 1),)),)),
            ("choose", 2, (("choose", 0, (("full", 1),)),)),
            ("choose", 1, (("full", 0), ("full", 2))),
            ("choose", 1, (("choose", 2, (("full", 0),)), ("choose", 0, (("full", 2),)))),
            ("choose", 1, (("choose", 0, (None,)), ("choose", 2, (None,)))),
            ("choose", 0, (("choose", 2, (("choose", 1, (None, None)),)),)),
        ):
            self.assertTrue(self.check(turns, lists, paper))

    def test_empty_lists(self):
        self.assertTrue(self.check([[]], [[]], ("choose", 0, ())))
        self.assertTrue(self.check([[]], [[]], ("full", 0)))
        self.assertFalse(self.check([[]], [[]], ("choose", 0, (None,))))
        self.assertFalse(self.check([[]], [[]], ("choose", 1, ())))
        self.assertFalse(self.check([[]], [[1]], ("choose", 0, ())))
        self.assertTrue(self.check(path(2), [[1, 2], []], ("choose", 0, (("choose", 1, ()), ("full", 1)))))
        self.assertTrue(self.check(path(2), [[1, 2], []], ("choose", 1, ())))
        self.assertFalse(self.check(path(2), [[1, 2], []], ("choose", 0, ())))

    def test_no_paper_where_there_is_a_dyeing(self):
        for turns, lists in (([[]], [[1]]), (path(2), [[1, 2], [2]]), (cycle(4), [[1, 2]] * 4)):
            self.assertEqual(searched(Web(turns), lists)[0], "dyed")
            for p in range(len(turns)):
                self.assertFalse(self.check(turns, lists, ("full", p)))
                self.assertFalse(self.check(turns, lists, ("choose", p, tuple(("full", 1 - p) for _ in lists[p]))))
                self.assertFalse(self.check(turns, lists, ("choose", p, tuple(None for _ in lists[p]))))

    def test_true_and_false_are_no_points(self):
        self.assertIs(is_paper(Web([[]]), [[]], ("full", False)), False)
        self.assertIs(is_paper(Web(path(2)), [[5], [5]], ("choose", 0, (("full", True),))), False)
        self.assertIs(is_paper(Web(path(2)), [[5], [5]], ("choose", 0, (("full", 1),))), True)

    def test_papers_very_deep_and_very_wide(self):
        deep = ("full", 0)
        for k in range(5000):
            deep = ("choose", k % 3, (deep,))
        for lists in ([[1], [1], [1]], [[], [], []], [[1, 2], [1], [2]]):
            self.assertIs(is_paper(Web(path(3)), lists, deep), False)
        wide = ("choose", 0, tuple(("full", 1) for _ in range(5000)))
        self.assertIs(is_paper(Web(path(3)), [[1], [1], [1]], wide), False)
        self.assertIs(is_paper(Web(path(3)), [[1], [1], [1]], ("choose", 0, wide[2][:1])), True)
        # Of a list so long the paper is one, though.
        self.assertIs(is_paper(Web(path(2)), [list(range(30)), []], ("choose", 0, wide[2][:30])), True)

    def test_asked_of_any_web_of_eight_points(self):
        lists = [[0, 1, 2, 3] for _ in range(8)]
        paper = searched(Web(whole(8)), lists)[1]
        self.assertIs(is_paper(Web(whole(8)), lists, paper), True)
        self.assertIs(is_paper(Web(cycle(8)), lists, paper), False)
        self.assertIs(is_paper(Web(whole(8)), [[0, 1, 2, 4]] + lists[1:], paper), False)


if __name__ == "__main__":
    unittest.main()
