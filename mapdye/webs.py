"""Webs: points, and each point's ties in the turn in which they stand around it."""

from mapdye.errors import NoWeb, TooMany

MOST_POINTS = 14


def is_among(thing, many):
    """Whether the thing is one of the whole numbers 0 to many - 1."""
    # Python's True and False are integers, but no whole numbers here.
    return isinstance(thing, int) and not isinstance(thing, bool) and 0 <= thing < many


def alien_fault(rows):
    for p, row in enumerate(rows):
        for q in row:
            if not is_among(q, len(rows)):
                return ("alien", p, q)
    return None


def self_fault(rows):
    for p, row in enumerate(rows):
        if p in row:
            return ("self", p, p)
    return None


def twice_fault(rows):
    for p, row in enumerate(rows):
        for place, q in enumerate(row):
            if q in row[:place]:
                return ("twice", p, q)
    return None


def lone_fault(rows):
    for p, row in enumerate(rows):
        for q in row:
            if p not in rows[q]:
                return ("lone", p, q)
    return None


def reached_from_first(rows):
    """For each point, whether one comes to it from 0 along ties."""
    reached = [False for row in rows]
    reached[0] = True
    waiting = [0]
    while waiting:
        p = waiting.pop()
        for q in rows[p]:
            if not reached[q]:
                reached[q] = True
                waiting.append(q)
    return reached


def apart_fault(rows):
    for q, reached in enumerate(reached_from_first(rows)):
        if not reached:
            return ("apart", 0, q)
    return None


def first_fault(rows):
    """The fault that is told of the rows, or None if they are a web."""
    # Each kind is looked for only where the kinds ahead of it are not: with aliens in them, rows can't be walked.
    fault = alien_fault(rows)
    if fault is None:
        fault = self_fault(rows)
    if fault is None:
        fault = twice_fault(rows)
    if fault is None:
        fault = lone_fault(rows)
    if fault is None:
        fault = apart_fault(rows)
    return fault


class Web:
    """A web, told by its turns; it does not change."""

    def __init__(self, turns):
        if not 1 <= len(turns) <= MOST_POINTS:
            raise TooMany(f"a web has 1 to {MOST_POINTS} points, not {len(turns)}")
        rows = [list(row) for row in turns]
        fault = first_fault(rows)
        if fault is not None:
            raise NoWeb(fault)
        self.rows = rows

    def many(self):
        """How many points there are."""
        return len(self.rows)

    def turns(self):
        """The turns, as they were handed in."""
        return [list(row) for row in self.rows]

    def ties(self):
        """The ties (a, b), a less than b, sorted."""
        return sorted([(p, q) for p, row in enumerate(self.rows) for q in row if p < q])

    def tied(self, a, b):
        """Whether a and b, any two whole numbers, are tied points."""
        many = len(self.rows)
        return is_among(a, many) and is_among(b, many) and b in self.rows[a]

    def behind(self, p, q):
        """The point right behind q in p's turn; p and q are tied."""
        row = self.rows[p]
        return row[(row.index(q) + 1) % len(row)]


def need_at_most(web, most):
    """Refuses a web of more points than these."""
    if web.many() > most:
        raise TooMany(f"this is asked of webs of at most {most} points, not {web.many()}")
