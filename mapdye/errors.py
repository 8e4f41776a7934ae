"""The refusals: MapError, and under it one class for each kind."""

MOST_COPIED = 200


def copied(thing, left):
    """The thing as it stands, but in lists, tuples and dicts of its own.

    left is a list of one number: how many of these may still be made. A list may hold itself, and copying it
    would not end; so, when none are left, the rest is told as it is.
    """
    if not isinstance(thing, (list, tuple, dict)) or left[0] == 0:
        return thing
    left[0] -= 1
    if isinstance(thing, dict):
        return {key: copied(held, left) for key, held in thing.items()}
    parts = [copied(held, left) for held in thing]
    return parts if isinstance(thing, list) else tuple(parts)


class MapError(ValueError):
    """Any refusal."""


class TooMany(MapError):
    """No points, or more than are taken."""


class TooSmall(MapError):
    """Fewer points than are needed."""


class NoWeb(MapError):
    """Turns that are no web; fault is the first fault in them."""

    def __init__(self, fault):
        MapError.__init__(self, "these turns are no web")
        # The fault may bear a list out of the turns, and that one stays with whoever handed it in.
        self.fault = copied(fault, [MOST_COPIED])


class NotPlane(MapError):
    """A web that is not plane; counted is its count."""

    def __init__(self, counted):
        MapError.__init__(self, "this web is not plane")
        self.counted = counted


class NoText(MapError):
    """A text that is not that of turns."""


class NoCorner(MapError):
    """No such land or place, or points that no tie can be put between."""


class NoRing(MapError):
    """A list that is no ring."""


class Alike(MapError):
    """Like dyes at both ends; one and other are the ends."""

    def __init__(self, one, other):
        MapError.__init__(self, "both ends have like dyes")
        self.one = one
        self.other = other


class TooFew(MapError):
    """Fewer dyes than are needed; point is the least one that has too few."""

    def __init__(self, point):
        MapError.__init__(self, "a point has too few dyes")
        self.point = point


class NotFree(MapError):
    """A point that can't be given a dye; point is that one."""

    def __init__(self, point):
        MapError.__init__(self, "the point is not free to be given a dye")
        self.point = point


class NotFilled(MapError):
    """A web that is not filled in; land is the number of the first land that has not three points."""

    def __init__(self, land):
        MapError.__init__(self, "a land has not three points")
        self.land = land


class Odd(MapError):
    """Ties' dyes that come from no lands' dyes; point is the least one at which they do not fit."""

    def __init__(self, point):
        MapError.__init__(self, "the ties' dyes at a point do not fit")
        self.point = point


class Bridge(MapError):
    """A web that can't be crossed; tie is the first one both of whose sides are in one land."""

    def __init__(self, tie):
        MapError.__init__(self, "a tie has both sides in one land")
        self.tie = tie


class Shared(MapError):
    """A web that can't be crossed; one and other are two lands with two ties or more in common."""

    def __init__(self, one, other):
        MapError.__init__(self, "two lands have several ties in common")
        self.one = one
        self.other = other
