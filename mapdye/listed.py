"""Dyes from lists: of three dyes at a rim and five within it, and of five everywhere."""

from mapdye.errors import Alike, TooFew
from mapdye.filling import filled
from mapdye.lands import lands, need_filled, need_plane
from mapdye.rings import begun_at, chords, made_less, parted, rim_told, within_at


def need_enough(lists, needed):
    """Refuses lists in which a point has fewer dyes than needed, a dict of rising points, has for it."""
    for p, least in needed.items():
        if len(lists[p]) < least:
            raise TooFew(p)


def place_tied_to_last(web, ring):
    """A place from which a chord goes to the last point of the ring, or None."""
    for i, j in chords(web, ring):
        if j == len(ring) - 1:
            return i
    return None


def chord_steps(web, ring, i, left, dyeing):
    """The steps where a chord goes from place i to the last point."""
    last = ring[-1]
    other, own = parted(ring, i, len(ring) - 1)
    steps = [("chord", last, ring[i])]
    steps.extend(steps_from(web, begun_at(own, ring[0]), left, dyeing))
    steps.extend(steps_from(web, begun_at(other, last), left, dyeing))
    return steps


def off_steps(web, ring, left, dyeing):
    """The steps where no chord goes to the last point."""
    last = ring[-1]
    x, y = [dye for dye in left[last] if dye != dyeing[ring[0]]][:2]
    for p in within_at(web, ring, len(ring) - 1):
        left[p] = [dye for dye in left[p] if dye != x and dye != y]
    steps = [("off", last, x, y)]
    steps.extend(steps_from(web, made_less(web, ring), left, dyeing))
    dyeing[last] = y if dyeing[ring[-2]] == x else x
    return steps


def steps_from(web, ring, left, dyeing):
    """The steps of a ring whose first two points are dyed; dyes its other points, and those within it, on the way.

    left has for each point the dyes of its list that are not struck yet. Both left and dyeing are changed.
    """
    if len(ring) == 2:
        return []
    i = place_tied_to_last(web, ring)
    if i is None:
        return off_steps(web, ring, left, dyeing)
    return chord_steps(web, ring, i, left, dyeing)


def listed(web, ring, lists, one, other):
    """A dyeing from lists in which the ring's first two points have the dyes one and other, and its steps."""
    need_plane(web)
    need_filled(web, rim_told(web, ring))
    if one == other:
        raise Alike(ring[0], ring[1])
    # The first two points' own lists do not matter, so they are not so much as looked at.
    needed = {p: 3 if p in ring else 5 for p in range(web.many()) if p not in ring[:2]}
    need_enough(lists, needed)
    left = {p: list(lists[p]) for p in needed}
    dyeing = [None for p in range(web.many())]
    dyeing[ring[0]] = one
    dyeing[ring[1]] = other
    steps = steps_from(web, ring, left, dyeing)
    return (dyeing, steps)


def unlike_dyes(one, other):
    """Two unlike dyes, the first from the list one, the second from the list other."""
    return (one[0], [dye for dye in other if dye != one[0]][0])


def five_listed(web, lists):
    """A dyeing from lists of five, the web filled in, the ring and the steps by which it was come to."""
    need_plane(web)
    need_enough(lists, {p: 5 for p in range(web.many())})
    if web.many() == 1:
        return ([lists[0][0]], None, [], [])
    if web.many() == 2:
        return (list(unlike_dyes(lists[0], lists[1])), None, [], [])
    whole = filled(web)[0]
    ring = lands(whole)[0]
    one, other = unlike_dyes(lists[ring[0]], lists[ring[1]])
    dyeing, steps = listed(whole, ring, lists, one, other)
    return (dyeing, whole, ring, steps)
