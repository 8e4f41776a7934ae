"""Plane webs dyed with five dyes, by chains exchanged."""

from mapdye.chains import dye_given
from mapdye.lands import need_plane


def order_of_five(web):
    """All points of a plane web, in an order in which each has at most five neighbours behind it."""
    turns = web.turns()
    left = list(range(web.many()))
    order = []
    while left:
        # Whatever is left of a plane web is drawn in the plane, too, so it has a point with at most five ties.
        counts = [(len([q for q in turns[p] if q in left]), p) for p in left]
        least = min(counts)[1]
        order.append(least)
        left.remove(least)
    return order


def five_dyes(web):
    """A dyeing with the dyes 0 to 4, the order in which points were left out, and the deeds that gave them dyes."""
    need_plane(web)
    order = order_of_five(web)
    dyeing = [None for p in order]
    deeds = []
    for p in reversed(order):
        dyeing, done = dye_given(web, dyeing, p, 5)
        deeds.extend(done)
    return (dyeing, order, deeds)
