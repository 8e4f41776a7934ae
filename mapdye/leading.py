"""One dyeing led to another one, a point at a time."""

from mapdye.chains import least_free
from mapdye.errors import TooFew
from mapdye.fives import order_of_five
from mapdye.lands import need_plane
from mapdye.webs import need_at_most

MOST_LED = 10
FEWEST_DYES = 7


def led_with(walk, p, near, one, other):
    """The walk, which leads other points from one to other, with p led along; near are p's neighbours among them."""
    dyeing = list(one)
    told = []
    for q, dye in walk:
        if q in near and dye == dyeing[p]:
            # p gives way: five neighbours and the dye to come bar six dyes, and there are seven.
            dyeing[p] = least_free([dyeing[r] for r in near] + [dye], FEWEST_DYES)
            told.append((p, dyeing[p]))
        dyeing[q] = dye
        told.append((q, dye))
    if dyeing[p] != other[p]:
        told.append((p, other[p]))
    return told


def led(web, one, other, many):
    """What gives points other dyes, one behind another, till the dyeing one has become the other."""
    need_at_most(web, MOST_LED)
    need_plane(web)
    if many < FEWEST_DYES:
        raise TooFew(0)
    turns = web.turns()
    walk = []
    behind = []
    for p in reversed(order_of_five(web)):
        walk = led_with(walk, p, [q for q in turns[p] if q in behind], one, other)
        behind.append(p)
    return walk
