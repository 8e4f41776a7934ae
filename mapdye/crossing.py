"""Lands' dyes and ties' dyes, and the crossed web, whose points are the lands."""

from mapdye.errors import Alike, Bridge, Odd, Shared
from mapdye.lands import lands, need_plane
from mapdye.webs import Web


def sides_of(land):
    """The sides of the land, in its order."""
    # The land of a web of one point has its point, but no side.
    return list(zip(land, land[1:] + land[:1])) if len(land) > 1 else []


def land_numbers(web):
    """For each side the number of its land."""
    return {side: number for number, land in enumerate(lands(web)) for side in sides_of(land)}


def tie_dyes(web, dyes):
    """The ties' dyes that come from these dyes of the lands."""
    number_of = land_numbers(web)
    told = []
    for a, b in web.ties():
        dye = dyes[number_of[(a, b)]] ^ dyes[number_of[(b, a)]]
        if dye == 0:
            raise Alike(a, b)
        told.append(dye)
    return told


def need_even(web, dyes):
    """Refuses ties' dyes of which the exclusive or is not 0 at some point."""
    sums = [0 for p in range(web.many())]
    for (a, b), dye in zip(web.ties(), dyes):
        sums[a] ^= dye
        sums[b] ^= dye
    for p, left in enumerate(sums):
        if left != 0:
            raise Odd(p)


def land_dyes(web, dyes, first):
    """The lands' dyes, that of the first one being told, from which these ties' dyes come."""
    need_plane(web)
    need_even(web, dyes)
    number_of = land_numbers(web)
    dye_of = dict(zip(web.ties(), dyes))
    rounds = lands(web)
    told = [None for land in rounds]
    told[0] = first
    # Which way a land is come to is no matter: in the plane, ways differ by the points between them, each of them even.
    waiting = [0]
    while waiting:
        number = waiting.pop()
        for p, q in sides_of(rounds[number]):
            beyond = number_of[(q, p)]
            if told[beyond] is None:
                told[beyond] = told[number] ^ dye_of[(min(p, q), max(p, q))]
                waiting.append(beyond)
    return told


def need_no_bridge(web, number_of):
    """Refuses a web in which a tie has both sides in one land."""
    for a, b in web.ties():
        if number_of[(a, b)] == number_of[(b, a)]:
            raise Bridge((a, b))


def need_none_shared(rows):
    """Refuses lands, told by those beyond their sides, of which two have several ties in common."""
    for one, row in enumerate(rows):
        shared = [other for other in row if row.count(other) > 1]
        if shared:
            # Two lands stand in each other's rows alike, so a pair is met at the lesser one.
            raise Shared(one, min(shared))


def crossed(web):
    """The web whose points are the lands of this one."""
    need_plane(web)
    number_of = land_numbers(web)
    need_no_bridge(web, number_of)
    rows = [[number_of[(q, p)] for p, q in sides_of(land)] for land in lands(web)]
    need_none_shared(rows)
    return Web(rows)
