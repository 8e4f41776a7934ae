"""Rings: rims of plane webs, and what comes of them by parting and by making less."""

from mapdye.errors import NoRing
from mapdye.lands import lands
from mapdye.webs import is_among


def begun_at(ring, p):
    """The ring, begun at its point p."""
    place = ring.index(p)
    return ring[place:] + ring[:place]


def rim_told(web, ring):
    """The land whose list the ring is, as the lands tell it; refuses what is no list of three or more unlike points."""
    points = [p for p in ring if is_among(p, web.many())]
    if len(ring) < 3 or len(set(points)) < len(ring):
        raise NoRing("a ring is three points or more, all unlike")
    # As all its points are unlike, a land's least side is the one that begins at its least point.
    told = begun_at(points, min(points))
    if told not in lands(web):
        raise NoRing("the ring is no land's")
    return told


def within_at(web, ring, i):
    """The points to which the ties within at place i go, from right behind the next point of the ring on."""
    turn = begun_at(web.turns()[ring[i]], ring[(i + 1) % len(ring)])
    return turn[1:turn.index(ring[i - 1])]


def chords(web, ring):
    """The chords (i, j), sorted."""
    # No point stands in the ring twice, so each tie within that ends at the ring is one pair of places.
    pairs = [(i, ring.index(p)) for i in range(len(ring)) for p in within_at(web, ring, i) if p in ring]
    return sorted([(i, j) for i, j in pairs if i < j])


def points_within(web, ring):
    """The points within the ring, rising."""
    turns = web.turns()
    waiting = [p for i in range(len(ring)) for p in within_at(web, ring, i)]
    met = set()
    while waiting:
        p = waiting.pop()
        if p not in ring and p not in met:
            met.add(p)
            waiting.extend(turns[p])
    return sorted(met)


def parted(ring, i, j):
    """The two rings into which the chord (i, j) parts the ring."""
    return (ring[i:j + 1], ring[j:] + ring[:i + 1])


def made_less(web, ring):
    """The ring made less by its last point, at which no chord ends."""
    return ring[:-1] + within_at(web, ring, len(ring) - 1)[::-1]
