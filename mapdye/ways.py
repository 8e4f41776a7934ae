"""The ways of dyeing a web, counted for any number of dyes."""

from mapdye.webs import need_at_most

MOST_COUNTED = 8


def parts_with(parts, p, row):
    """The ways to put p, tied to the points of the row, with these parts, so that no part has a tie within."""
    told = [parts + [[p]]]
    for place, part in enumerate(parts):
        if not [q for q in part if q in row]:
            told.append(parts[:place] + [part + [p]] + parts[place + 1:])
    return told


def counted_by_parts(web):
    """At each place, in how many ways the points fall into so many parts without ties within."""
    fallen = [[]]
    for p, row in enumerate(web.turns()):
        fallen = [told for parts in fallen for told in parts_with(parts, p, row)]
    counts = [0 for place in range(web.many() + 1)]
    for parts in fallen:
        counts[len(parts)] += 1
    return counts


def ways(web):
    """The whole numbers that, each times k to the power of its place, sum up to the number of dyeings with k dyes."""
    need_at_most(web, MOST_COUNTED)
    told = [0 for place in range(web.many() + 1)]
    # So many parts can be given unlike dyes in k (k - 1) (k - 2) .. ways, which are multiplied out here.
    falling = [1]
    for less, many in enumerate(counted_by_parts(web)):
        for place, factor in enumerate(falling):
            told[place] += many * factor
        falling = [up - less * same for up, same in zip([0] + falling, falling + [0])]
    return told


def ways_by(web, many):
    """How many dyeings there are with the dyes 0 to many - 1."""
    total = 0
    for factor in reversed(ways(web)):
        total = total * many + factor
    return total
