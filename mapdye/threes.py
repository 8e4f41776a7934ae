"""Three dyes of filled-in webs, or an odd wheel."""

from mapdye.errors import TooSmall
from mapdye.lands import lands, need_filled, need_plane


def third_dyed(dyeing, land):
    """Gives the point of the land that alone has no dye the one that the two others have not."""
    bare = [p for p in land if dyeing[p] is None]
    if len(bare) == 1:
        # The dyes 0, 1 and 2 are three together.
        dyeing[bare[0]] = 3 - sum([dyeing[p] for p in land if p != bare[0]])


def dyed_by_lands(web):
    """The dyeing of a filled-in web in which each point has an even number of ties."""
    told = lands(web)
    dyeing = [None for p in range(web.many())]
    for dye, p in enumerate(told[0]):
        dyeing[p] = dye
    # Lands with a tie in common lead from one to another through the whole web, so each point's turn comes.
    while None in dyeing:
        for land in told:
            third_dyed(dyeing, land)
    return dyeing


def three_dyes(web):
    """A dyeing of a filled-in web with the dyes 0 to 2, or a point with an odd number of ties, and its turn."""
    if web.many() < 3:
        raise TooSmall("a web of fewer than three points is not filled in")
    need_plane(web)
    need_filled(web, None)
    for p, row in enumerate(web.turns()):
        if len(row) & 1:
            return ("wheel", p, row)
    return ("dyed", dyed_by_lands(web))
