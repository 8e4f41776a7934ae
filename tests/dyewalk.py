"""Dyeings for the tests, and points 20 to 23 and 29 walked from their words, apart from the package."""

import itertools

from samples import Picker, ties_of


def is_dyeing(turns, dyeing):
    """Whether there is one dye, or None, for each point, and no tie has like dyes at its ends."""
    unlike = all(dyeing[a] is None or dyeing[a] != dyeing[b] for a, b in ties_of(turns))
    return len(dyeing) == len(turns) and unlike


def all_dyeings(turns, lists):
    """All dyeings with each point's dye from its list."""
    return [list(dyes) for dyes in itertools.product(*lists) if is_dyeing(turns, list(dyes))]


def some_dyeing(turns, many, picker, apart=(), bare=()):
    """A dyeing with dyes 0 to many - 1, the points of apart unlike, those of bare with None; None if there is none."""
    order = picker.some([p for p in range(len(turns)) if p not in bare], len(turns) - len(bare))
    # Those that are to be unlike come first, as they are hardest to dye.
    order = sorted(order, key=lambda p: p not in apart)
    dyeing = [None for _ in turns]
    return dyeing if dye_on(turns, many, picker, apart, order, dyeing) else None


def dye_on(turns, many, picker, apart, order, dyeing):
    if not order:
        return True
    p = order[0]
    near = turns[p] + (list(apart) if p in apart else [])
    for dye in picker.some(range(many), many):
        if all(dyeing[q] != dye for q in near if q != p):
            dyeing[p] = dye
            if dye_on(turns, many, picker, apart, order[1:], dyeing):
                return True
            dyeing[p] = None
    return False


def greedy_dyeing(turns, start, share=4):
    """A dyeing of some of the points, of any web: about one of so many is left out."""
    picker = Picker(start)
    dyeing = [None for _ in turns]
    for p in picker.some(range(len(turns)), len(turns)):
        if picker.below(share):
            free = [dye for dye in range(len(turns[p]) + 2) if dye not in [dyeing[q] for q in turns[p]]]
            dyeing[p] = picker.one_of(free[:3])
    return dyeing


def chain_by_the_words(turns, dyeing, p, dye):
    """Point 20: what is come to from p, tie by tie, over points with one of the two dyes."""
    pair = {dyeing[p], dye}
    near = {p}
    for _ in turns:
        near |= {q for r in near for q in turns[r] if dyeing[q] in pair}
    return sorted(near)


class DeedsWalk:
    """Walks deeds as point 21 tells them; what does not stand so fails the test."""

    def __init__(self, test, turns, dyeing, many):
        self.test = test
        self.turns = turns
        self.dyeing = list(dyeing)
        self.many = many

    def free_at(self, p):
        """The dyes that are at none of the point's neighbours."""
        # So few are enough to see one, however great many is.
        few = range(min(self.many, 20))
        return [dye for dye in few if dye not in [self.dyeing[q] for q in self.turns[p]]]

    def given(self, p, deeds):
        """Takes the deeds for p off the list, and walks them."""
        self.test.assertIsNone(self.dyeing[p])
        if not self.free_at(p):
            self.exchange(deeds.pop(0))
        deed = deeds.pop(0)
        self.test.assertIs(type(deed), tuple)
        word, q, dye = deed
        self.test.assertEqual((word, q), ("give", p))
        self.test.assertIs(type(dye), int)
        self.test.assertTrue(0 <= dye < self.many)
        self.dyeing[p] = dye
        self.test.assertTrue(is_dyeing(self.turns, self.dyeing))

    def exchange(self, deed):
        self.test.assertIs(type(deed), tuple)
        word, q, dye = deed
        self.test.assertEqual(word, "exchange")
        own = self.dyeing[q]
        self.test.assertIsNotNone(own)
        self.test.assertTrue(0 <= dye < self.many and dye != own)
        for p in chain_by_the_words(self.turns, self.dyeing, q, dye):
            self.dyeing[p] = dye if self.dyeing[p] == own else own
        self.test.assertTrue(is_dyeing(self.turns, self.dyeing))


class PaperWalk:
    """Walks a told paper, choice by choice, as point 23 tells it; what does not stand so fails the test."""

    def __init__(self, test, turns, lists):
        self.test = test
        self.turns = turns
        self.lists = lists
        self.words = []

    def left(self, dyed, p):
        return [dye for dye in self.lists[p] if all(dyed.get(q) != dye or q not in dyed for q in self.turns[p])]

    def due(self, dyed):
        """The point to be chosen."""
        bare = [p for p in range(len(self.turns)) if p not in dyed]
        fewest = min(len(self.left(dyed, p)) for p in bare)
        return min(p for p in bare if len(self.left(dyed, p)) == fewest)

    def walk(self, paper, dyed):
        self.test.assertIs(type(paper), tuple)
        p = self.due(dyed)
        left = self.left(dyed, p)
        self.words.append(paper[0])
        if not left:
            self.test.assertEqual(paper, ("full", p))
            return
        self.test.assertEqual(paper[:2], ("choose", p))
        self.test.assertEqual(len(paper), 3)
        self.test.assertIs(type(paper[2]), tuple)
        self.test.assertEqual(len(paper[2]), len(self.lists[p]))
        for dye, held in zip(self.lists[p], paper[2]):
            if dye in left:
                self.walk(held, {**dyed, p: dye})
            else:
                self.test.assertIsNone(held)


def is_paper_by_the_words(turns, lists, paper, dyed):
    """Point 23, whichever points are chosen; dyed has the dyed points' dyes."""
    if paper is None or type(paper[1]) is not int or paper[1] not in range(len(turns)) or paper[1] in dyed:
        return False
    p = paper[1]
    around = [dyed[q] for q in turns[p] if q in dyed]
    if paper[0] == "full":
        return all(dye in around for dye in lists[p])
    if len(paper[2]) != len(lists[p]):
        return False
    return all(
        held is None if dye in around else is_paper_by_the_words(turns, lists, held, {**dyed, p: dye})
        for dye, held in zip(lists[p], paper[2])
    )


def other_paper(turns, lists, picker, dyed):
    """A paper that chooses any points, where there is no dyeing."""
    p = picker.one_of([p for p in range(len(turns)) if p not in dyed])
    around = [dyed[q] for q in turns[p] if q in dyed]
    if all(dye in around for dye in lists[p]) and picker.below(2):
        return ("full", p)
    held = [None if dye in around else other_paper(turns, lists, picker, {**dyed, p: dye}) for dye in lists[p]]
    return ("choose", p, tuple(held))


def walk_led(test, turns, one, other, many, told):
    """Point 29: each tuple gives another dye and leaves a dyeing; at the end it is the other one."""
    test.assertIs(type(told), list)
    test.assertLess(len(told), 2 ** len(turns))
    dyeing = list(one)
    for step in told:
        test.assertIs(type(step), tuple)
        p, dye = step
        test.assertIs(type(dye), int)
        test.assertTrue(0 <= dye < many)
        test.assertNotEqual(dyeing[p], dye)
        dyeing[p] = dye
        # Only the ties at p have changed.
        test.assertNotIn(dye, [dyeing[q] for q in turns[p]])
    test.assertEqual(dyeing, list(other))
