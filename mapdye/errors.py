"""The refusals: MapError, and under it one class for each kind."""

MOST_COPIED = 1000000


def nested_places(holder):
    """The places of a list, or the keys of a dict, at which it holds a list, a tuple or a dict."""
    places = list(holder) if isinstance(holder, dict) else list(range(len(holder)))
    return [place for place in places if isinstance(holder[place], (list, tuple, dict))]


def own_of(held, left):
    """A new dict for a dict, a new list for a list or a tuple; with the same in it, or empty if nothing is left."""
    if isinstance(held, dict):
        return dict(held) if left > 0 else {}
    return list(held) if left > 0 else []


def copied(thing):
    """The thing as it stands, but in lists, tuples and dicts of its own, throughout.

    A list may hold itself, and copying it would not end. So what lies behind the first so many places, those
    further out counted ahead, is told as lists, tuples and dicts with nothing in them.
    """
    top = [thing]
    holders = [top]
    tuples = []
    left = MOST_COPIED
    at = 0
    # A thing may be deeper than calls within calls may be, so the holders are gone through one behind another.
    while at < len(holders):
        holder = holders[at]
        places = nested_places(holder)
        for place in places:
            held = holder[place]
            own = own_of(held, left)
            left -= 1 + len(own)
            holder[place] = own
            holders.append(own)
            if isinstance(held, tuple):
                tuples.append((holder, place))
        at += 1
    # The innermost first: nothing can be put into a tuple any more.
    for holder, place in reversed(tuples):
        holder[place] = tuple(holder[place])
    return top[0]


class MapError(ValueError):
    """Any refusal."""


class TooMany(MapError):
    """No points, or more than are taken."""


class TooSmall(MapError):
    """Fewer points than are needed."""


class NoWeb(MapError):
    """Turns that are no web; fault is the first fault in them."""

    def __init__(self, fault):
        MapError.__init__(self, "these turns are no web")
        # The fault may bear a list out of the turns, and that one stays with whoever handed it in.
        self.fault = copied(fault)


class NotPlane(MapError):
    """A web that is not plane; counted is its count."""

    def __init__(self, counted):
        MapError.__init__(self, "this web is not plane")
        self.counted = counted


class NoText(MapError):
    """A text that is not that of turns."""


class NoCorner(MapError):
    """No such land or place, or points that no tie can be put between."""


class NoRing(MapError):
    """A list that is no ring."""


class Alike(MapError):
    """Like dyes at both ends; one and other are the ends."""

    def __init__(self, one, other):
        MapError.__init__(self, "both ends have like dyes")
        self.one = one
        self.other = other


class TooFew(MapError):
    """Fewer dyes than are needed; point is the least one that has too few."""

    def __init__(self, point):
        MapError.__init__(self, "a point has too few dyes")
        self.point = point


class NotFree(MapError):
    """A point that can't be given a dye; point is that one."""

    def __init__(self, point):
        MapError.__init__(self, "the point is not free to be given a dye")
        self.point = point


class NotFilled(MapError):
    """A web that is not filled in; land is the number of the first land that has not three points."""

    def __init__(self, land):
        MapError.__init__(self, "a land has not three points")
        self.land = land


class Odd(MapError):
    """Ties' dyes that come from no lands' dyes; point is the least one at which they do not fit."""

    def __init__(self, point):
        MapError.__init__(self, "the ties' dyes at a point do not fit")
        self.point = point


class Bridge(MapError):
    """A web that can't be crossed; tie is the first one both of whose sides are in one land."""

    def __init__(self, tie):
        MapError.__init__(self, "a tie has both sides in one land")
        self.tie = tie


class Shared(MapError):
    """A web that can't be crossed; one and other are two lands with two ties or more in common."""

    def __init__(self, one, other):
        MapError.__init__(self, "two lands have several ties in common")
        self.one = one
        self.other = other
