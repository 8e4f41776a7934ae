"""Ties put into lands, one by one or till the lands have three points."""

from mapdye.errors import NoCorner, TooSmall
from mapdye.lands import lands, need_plane
from mapdye.rings import rim_told
from mapdye.webs import Web, is_among


def put_behind(row, ahead, p):
    """The row with p in it right behind ahead."""
    place = row.index(ahead) + 1
    return row[:place] + [p] + row[place:]


def put_in(web, land, i, j):
    """The web with a tie put into the land of this number, from its place i to its place j."""
    told = lands(web)
    if not is_among(land, len(told)):
        raise NoCorner("there is no such land")
    points = told[land]
    if not is_among(i, len(points)) or not is_among(j, len(points)):
        raise NoCorner("the land has no such place")
    a, b = points[i], points[j]
    if a == b or web.tied(a, b):
        raise NoCorner("the points are alike, or tied")
    turns = web.turns()
    turns[a] = put_behind(turns[a], points[i - 1], b)
    turns[b] = put_behind(turns[b], points[j - 1], a)
    return Web(turns)


def next_corner(web, kept):
    """Where a tie can be put into a land of four points or more, other than kept: (land, i, j), or None."""
    for number, land in enumerate(lands(web)):
        if len(land) > 3 and land != kept:
            for i, a in enumerate(land):
                j = (i + 2) % len(land)
                if a != land[j] and not web.tied(a, land[j]):
                    return (number, i, j)
    return None


def filled_but(web, kept):
    """The plane web with all lands but kept filled in, and the ties that were put in."""
    ties = []
    corner = next_corner(web, kept)
    while corner is not None:
        number, i, j = corner
        land = lands(web)[number]
        ties.append((min(land[i], land[j]), max(land[i], land[j])))
        web = put_in(web, number, i, j)
        corner = next_corner(web, kept)
    return (web, ties)


def filled(web):
    """The web with all lands filled in, and the ties in the order in which they were put in."""
    if web.many() < 3:
        raise TooSmall("a web of fewer than three points can't be filled in")
    need_plane(web)
    return filled_but(web, None)


def filled_within(web, ring):
    """The web with all lands but that of the ring filled in, and the ties likewise."""
    need_plane(web)
    return filled_but(web, rim_told(web, ring))
