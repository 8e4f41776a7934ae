"""Lands: the rounds of sides of a web, and by their number whether it is plane."""

from mapdye.errors import NotFilled, NotPlane


def round_from(web, side):
    """The sides of the round that this side is in, from it on."""
    sides = [side]
    p, q = side
    p, q = q, web.behind(q, p)
    while (p, q) != side:
        sides.append((p, q))
        p, q = q, web.behind(q, p)
    return sides


def lands(web):
    """The lands, sorted, each the list of the points at which its sides begin, from its least side on."""
    if web.many() == 1:
        return [[0]]
    walked = set()
    told = []
    # From the least side on, so that the first side met of a round is its least one.
    for side in sorted(web.ties() + [(b, a) for a, b in web.ties()]):
        if side not in walked:
            sides = round_from(web, side)
            for step in sides:
                walked.add(step)
            told.append([p for p, q in sides])
    return sorted(told)


def count(web):
    """The count of the web: (points, ties, lands)."""
    return (web.many(), len(web.ties()), len(lands(web)))


def is_plane(web):
    """Whether points and lands together are two more than ties."""
    points, ties, rounds = count(web)
    return points + rounds == ties + 2


def need_plane(web):
    """Refuses a web that is not plane."""
    if not is_plane(web):
        raise NotPlane(count(web))


def need_filled(web, rim):
    """Refuses a web in which a land other than the rim, which may be None, has not three points."""
    for number, land in enumerate(lands(web)):
        if len(land) != 3 and land != rim:
            raise NotFilled(number)
