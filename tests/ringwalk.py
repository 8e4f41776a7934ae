"""Rings looked at by the lands within them, and steps walked as point 18 tells them, apart from the package."""

import functools

from samples import lands_of, sides_of


@functools.lru_cache(maxsize=None)
def land_of_each_side(rows):
    return {side: sides_of(land) for land in lands_of([list(row) for row in rows]) for side in sides_of(land)}


@functools.lru_cache(maxsize=None)
def sides_within(rows, around):
    land_of = land_of_each_side(rows)
    met = set()
    waiting = [(q, p) for p, q in around]
    while waiting:
        side = waiting.pop()
        if side not in met:
            met.update(land_of[side])
            waiting.extend((q, p) for p, q in land_of[side] if (p, q) not in around and (q, p) not in around)
    return met


def lands_within(turns, ring):
    """The sides of the lands within a ring: those that one comes to from its ties' other sides, over no tie of it."""
    return sides_within(tuple(tuple(row) for row in turns), frozenset(sides_of(ring)))


def within_by_lands(turns, ring, i):
    """Point 13: those of the ties of a point of the ring of which both sides are within, and which are not its own."""
    sides = lands_within(turns, ring)
    p, following, before = ring[i], ring[(i + 1) % len(ring)], ring[i - 1]
    place = turns[p].index(following)
    turn = turns[p][place + 1:] + turns[p][:place]
    return [q for q in turn if q != before and (p, q) in sides and (q, p) in sides]


def chords_by_lands(turns, ring):
    return [
        (i, j) for i in range(len(ring)) for j in range(i + 1, len(ring)) if ring[j] in within_by_lands(turns, ring, i)
    ]


def points_by_lands(turns, ring):
    return sorted({p for p, q in lands_within(turns, ring)} - set(ring))


def parts_by_the_words(ring, i, j):
    one = [ring[place] for place in range(i, j + 1)]
    other = [ring[place] for place in range(j, len(ring))] + [ring[place] for place in range(0, i + 1)]
    return (one, other)


class StepsWalk:
    """Walks steps from a ring on; what does not stand as point 18 tells it fails the test."""

    def __init__(self, test, turns, lists, steps):
        self.test = test
        self.turns = turns
        self.lists = {p: list(row) for p, row in enumerate(lists) if row is not None}
        self.steps = list(steps)
        self.dyes = {}

    def dyeing(self, ring, one, other):
        """The dyeing to which the steps lead."""
        self.dyes = {ring[0]: one, ring[1]: other}
        self.walk(list(ring))
        self.test.assertEqual(self.steps, [])
        return [self.dyes[p] for p in range(len(self.turns))]

    def walk(self, ring):
        if len(ring) == 2:
            self.two(ring)
            return
        self.ring(ring)
        step = self.steps.pop(0)
        self.test.assertIs(type(step), tuple)
        if step[0] == "chord":
            self.chord(ring, step)
        else:
            self.off(ring, step)

    def two(self, ring):
        self.test.assertIn(ring[1], self.turns[ring[0]])
        self.test.assertNotEqual(self.dyes[ring[0]], self.dyes[ring[1]])

    def ring(self, ring):
        """What goes with each ring."""
        self.two(ring)
        self.test.assertEqual(len(set(ring)), len(ring))
        for p, q in sides_of(ring):
            self.test.assertIn(q, self.turns[p])
        for p in ring[2:]:
            self.test.assertNotIn(p, self.dyes)
            self.test.assertGreaterEqual(len(self.lists[p]), 3)
        for p in points_by_lands(self.turns, ring):
            self.test.assertNotIn(p, self.dyes)
            self.test.assertGreaterEqual(len(self.lists[p]), 5)

    def chord(self, ring, step):
        word, a, b = step
        i, j = sorted([ring.index(a), ring.index(b)])
        self.test.assertIn((i, j), chords_by_lands(self.turns, ring))
        own, other = parts_by_the_words(ring, i, j)
        if ring[1] not in own or ring[0] not in own:
            own, other = other, own
        place = own.index(ring[0])
        own = own[place:] + own[:place]
        self.test.assertEqual(own[1], ring[1])
        self.walk(own)
        place = other.index(a)
        other = other[place:] + other[:place]
        self.test.assertEqual(other[1], b)
        self.walk(other)

    def off(self, ring, step):
        word, v, x, y = step
        self.test.assertEqual((word, v), ("off", ring[-1]))
        last = len(ring) - 1
        self.test.assertEqual([chord for chord in chords_by_lands(self.turns, ring) if last in chord], [])
        self.test.assertNotEqual(x, y)
        for dye in (x, y):
            self.test.assertIn(dye, self.lists[v])
            self.test.assertNotEqual(dye, self.dyes[ring[0]])
        within = within_by_lands(self.turns, ring, last)
        for p in within:
            self.lists[p] = [dye for dye in self.lists[p] if dye not in (x, y)]
        self.walk(ring[:last] + list(reversed(within)))
        self.dyes[v] = y if self.dyes[ring[last - 1]] == x else x
