"""Chains of two dyes, their exchange, and a point given a dye by it."""

from mapdye.errors import NotFree
from mapdye.lands import need_plane


def chain(web, dyeing, p, dye):
    """The points to which one comes from p over points that have p's dye or the other one, rising."""
    turns = web.turns()
    pair = (dyeing[p], dye)
    met = set()
    waiting = [p]
    while waiting:
        q = waiting.pop()
        if q not in met and dyeing[q] in pair:
            met.add(q)
            waiting.extend(turns[q])
    return sorted(met)


def exchanged(dyeing, points, one, other):
    """The dyeing with the dyes one and other exchanged at these points."""
    told = list(dyeing)
    for p in points:
        if dyeing[p] == one:
            told[p] = other
        elif dyeing[p] == other:
            told[p] = one
    return told


def least_free(taken, many):
    """The least of the dyes 0 to many - 1 that is not among those taken, or None."""
    # Of one dye more than are taken one is free, so a great many is not gone through.
    for dye in range(min(many, len(taken) + 1)):
        if dye not in taken:
            return dye
    return None


def freeing_exchange(web, dyeing, around):
    """(q, x): with the chain of q and the dye x exchanged, q's dye is at none of the points around, all dyed unlike.

    None where there is no such, as may be where the points are fewer than four.
    """
    for q in around:
        for r in around:
            if r not in chain(web, dyeing, q, dyeing[r]):
                return (q, dyeing[r])
    return None


def dye_given(web, dyeing, p, many):
    """The dyeing with a dye for p from 0 to many - 1, and the deeds that make it."""
    need_plane(web)
    around = [q for q in web.turns()[p] if dyeing[q] is not None]
    if dyeing[p] is not None or len(around) > many:
        raise NotFree(p)
    told = list(dyeing)
    deeds = []
    dye = least_free([dyeing[q] for q in around], many)
    if dye is None:
        exchange = freeing_exchange(web, dyeing, around)
        if exchange is None:
            # Only fewer than four dyes come to this: p stays as it was.
            return (told, deeds)
        q, x = exchange
        dye = dyeing[q]
        told = exchanged(dyeing, chain(web, dyeing, q, x), dye, x)
        deeds.append(("exchange", q, x))
    told[p] = dye
    deeds.append(("give", p, dye))
    return (told, deeds)
