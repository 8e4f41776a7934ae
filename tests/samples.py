"""Webs for the tests, and point 7 and point 10 written from their words, apart from the package."""

import itertools

K4_PLANE = [[1, 2, 3], [0, 3, 2], [0, 1, 3], [0, 2, 1]]
K4_TORUS = [[1, 2, 3], [0, 2, 3], [0, 1, 3], [0, 1, 2]]
CUBE = [[1, 3, 4], [2, 0, 5], [3, 1, 6], [0, 2, 7], [7, 5, 0], [4, 6, 1], [5, 7, 2], [6, 4, 3]]


def cycle(many):
    return [[(p + 1) % many, (p - 1) % many] for p in range(many)]


def path(many):
    return [[q for q in (p - 1, p + 1) if 0 <= q < many] for p in range(many)]


def star(many):
    return [list(range(1, many))] + [[0] for _ in range(1, many)]


def wheel(rim):
    """A rim of points 0 to rim - 1 in this order, and the point rim within, tied to all of them."""
    turns = [[(p + 1) % rim, rim, (p - 1) % rim] for p in range(rim)]
    return turns + [list(range(rim))]


def fan(many):
    """A rim of all points in this order, with ties within from 0 to all others."""
    turns = [list(range(1, many)), [2, 0]]
    turns += [[p + 1, 0, p - 1] for p in range(2, many - 1)]
    return turns + [[0, many - 2]]


def whole(many):
    return [[q for q in range(many) if q != p] for p in range(many)]


def two_parts(one, other):
    return [list(range(one, one + other)) for _ in range(one)] + [list(range(one)) for _ in range(other)]


def all_turns(neighbours):
    """All turns in which the points have these neighbours, each once, whichever stands first."""
    choices = [
        [[row[0]] + list(rest) for rest in itertools.permutations(row[1:])] if row else [[]] for row in neighbours
    ]
    for turns in itertools.product(*choices):
        yield [list(row) for row in turns]


def sides_of(land):
    return [(land[place], land[(place + 1) % len(land)]) for place in range(len(land))]


def rotations(ring):
    return [ring[place:] + ring[:place] for place in range(len(ring))]


def lands_of(turns):
    """The lands by point 7: side behind side, each land from its least side on, all sorted."""
    if turns == [[]]:
        return [[0]]
    behind = {}
    for q, row in enumerate(turns):
        for p, r in zip(row, row[1:] + row[:1]):
            behind[p, q] = (q, r)
    told = []
    while behind:
        side = min(behind)
        land = []
        while side in behind:
            land.append(side[0])
            side = behind.pop(side)
        told.append(land)
    return sorted(told)


def short_of_plane(turns):
    """By how much points and lands fall short of ties and two: 0 where the web is plane."""
    return sum(len(row) for row in turns) // 2 + 2 - len(turns) - len(lands_of(turns))


def put_in_turns(turns, land, i, j):
    """The turns with a tie put in as point 10 tells, land being a list."""
    made = [list(row) for row in turns]
    for at, to in ((i, j), (j, i)):
        row = made[land[at]]
        ahead = land[at - 1] if at > 0 else land[len(land) - 1]
        row.insert(row.index(ahead) + 1, land[to])
    return made


def hangs_together(turns):
    near = {0}
    for _ in turns:
        near = near | {q for p in near for q in turns[p]}
    return len(near) == len(turns)


def small_neighbours(many):
    """Neighbours of all webs of so many points, one of each shape."""
    pairs = list(itertools.combinations(range(many), 2))
    met = set()
    for size in range(len(pairs) + 1):
        for ties in itertools.combinations(pairs, size):
            if ties in met:
                continue
            for order in itertools.permutations(range(many)):
                met.add(tuple(sorted(tuple(sorted((order[a], order[b]))) for a, b in ties)))
            rows = [[q for q in range(many) if (min(p, q), max(p, q)) in ties] for p in range(many)]
            if hangs_together(rows):
                yield rows


def small_plane_turns(most):
    """All plane turns, of each shape of webs of up to so many points."""
    for many in range(1, most + 1):
        for neighbours in small_neighbours(many):
            for turns in all_turns(neighbours):
                if short_of_plane(turns) == 0:
                    yield turns


class Picker:
    """Picks things, without chance: the same start, the same picks."""

    def __init__(self, start):
        self.state = start

    def below(self, many):
        self.state = (self.state * 6364136223846793005 + 1442695040888963407) % 2 ** 64
        return (self.state >> 33) % many

    def one_of(self, things):
        return things[self.below(len(things))]

    def some(self, things, many):
        left = list(things)
        return [left.pop(self.below(len(left))) for _ in range(many)]


def turned(turns, picker):
    """The same web, other points first in their turns."""
    return [picker.one_of(rotations(row)) if row else [] for row in turns]


def renamed(turns, order):
    """The same web, point p being called order[p]."""
    made = [[] for _ in turns]
    for p, row in enumerate(turns):
        made[order[p]] = [order[q] for q in row]
    return made


def with_point_in(turns, land):
    """A new point in a land whose points are unlike, tied to all of them."""
    made = [list(row) for row in turns]
    for place, p in enumerate(land):
        made[p].insert(made[p].index(land[place - 1]) + 1, len(turns))
    return made + [land[::-1]]


def without(turns, a, b):
    """The turns without the tie."""
    return [[q for q in row if {p, q} != {a, b}] for p, row in enumerate(turns)]


def ties_of(turns):
    return [(p, q) for p, row in enumerate(turns) for q in row if p < q]


def flipped(turns, picker):
    """A tie is taken out of a filled-in web, and the land that this makes is parted the other way, if it can be."""
    a, b = picker.one_of(ties_of(turns))
    made = without(turns, a, b)
    for land in lands_of(made):
        if len(land) == 4:
            c, d = [p for p in land if p not in (a, b)]
            if c != d and d not in made[c]:
                return put_in_turns(made, land, land.index(c), land.index(d))
    return turns


def filled_turns(many, start):
    """A filled-in web of so many points, three or more, others for other starts."""
    picker = Picker(start)
    turns = [[1, 2], [2, 0], [0, 1]]
    while len(turns) < many:
        turns = with_point_in(turns, picker.one_of(lands_of(turns)))
    for _ in range(3 * many):
        turns = flipped(turns, picker)
    return turned(renamed(turns, picker.some(range(many), many)), picker)


def thinned(turns, many, start):
    """The web without up to so many ties, as long as it hangs together."""
    picker = Picker(start)
    for _ in range(many):
        less = without(turns, *picker.one_of(ties_of(turns)))
        if hangs_together(less):
            turns = less
    return turns


def rimmed_turns(many, rim, start):
    """A web of so many points with a land of so many unlike ones, all other lands of three: (turns, that land)."""
    if rim == many:
        turns = cycle(many)
        land = list(range(many))
        picker = Picker(start)
        while True:
            wide = [each for each in lands_of(turns) if len(each) > 3 and each != land]
            if not wide:
                break
            each = wide[0]
            i = picker.below(len(each))
            j = (i + 2) % len(each)
            turns = put_in_turns(turns, each, i, j)
        order = picker.some(range(many), many)
        return turned(renamed(turns, order), picker), [order[p] for p in land]
    # A point with as many ties as the rim is to have is taken out of a filled-in web.
    for offset in itertools.count():
        turns = filled_turns(many + 1, start * 1000 + offset)
        middles = [p for p, row in enumerate(turns) if len(row) == rim]
        if middles:
            return without_point(turns, middles[0])


def without_point(turns, v):
    """The web without a point, and the land that this makes: points above it are called one less."""
    made = [[q - (q > v) for q in row if q != v] for p, row in enumerate(turns) if p != v]
    around = [q - (q > v) for q in turns[v]]
    for land in lands_of(made):
        if sorted(land) == sorted(around) and land in rotations(around[::-1]):
            return made, land
    raise AssertionError("the point leaves no land")


def bipyramid(rim):
    """A rim, and a point on either side of it that is tied to all of it."""
    turns = wheel(rim)
    return with_point_in(turns, [land for land in lands_of(turns) if rim not in land][0])


def land_with(turns, *points):
    """A land that has just these points."""
    return [land for land in lands_of(turns) if sorted(land) == sorted(points)][0]


def with_two_on_tie(turns, a, b):
    """Two points on a tie of a filled-in web, tied to both points beside it: even numbers of ties stay even."""
    beside = [p for land in lands_of(turns) if {a, b} < set(land) for p in land if p not in (a, b)]
    x = len(turns)
    made = without(turns, a, b)
    made = with_point_in(made, land_with(made, a, b, *beside))
    made = without(made, x, b)
    return with_point_in(made, land_with(made, x, b, *beside))


def with_three_in_land(turns, land):
    """Three points in a land of three, tied to each other and each to two of its points; even stays even."""
    a, b, c = land
    x, y, z = range(len(turns), len(turns) + 3)
    made = with_point_in(turns, land)
    made = with_point_in(made, land_with(made, b, c, x))
    made = with_point_in(made, land_with(made, c, a, x))
    made = without(made, c, x)
    wide = land_with(made, c, y, x, z)
    return put_in_turns(made, wide, wide.index(y), wide.index(z))


def even_turns(start):
    """A filled-in web of up to 14 points, each with an even number of ties, others for other starts."""
    picker = Picker(start)
    turns = bipyramid(4)
    while len(turns) < 12 - picker.below(7):
        if picker.below(2):
            turns = with_two_on_tie(turns, *picker.one_of(ties_of(turns)))
        else:
            turns = with_three_in_land(turns, picker.one_of(lands_of(turns)))
    return turned(renamed(turns, picker.some(range(len(turns)), len(turns))), picker)
