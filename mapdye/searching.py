"""Dyeings searched for from short lists, and papers that there are none."""

from mapdye.webs import is_among, need_at_most

MOST_SEARCHED = 8


def dyes_left(turns, lists, dyeing, p):
    """The dyes of p's list that no dyed neighbour has, in the list's order."""
    taken = [dyeing[q] for q in turns[p]]
    return [dye for dye in lists[p] if dye not in taken]


def with_dye(dyeing, p, dye):
    """The dyeing in which p has this dye as well."""
    return dyeing[:p] + [dye] + dyeing[p + 1:]


def chosen_point(turns, lists, dyeing):
    """Of the points not dyed the one with the fewest dyes left, of such the least; None where all are dyed."""
    counts = [(len(dyes_left(turns, lists, dyeing, p)), p) for p, dye in enumerate(dyeing) if dye is None]
    return min(counts)[1] if counts else None


def searched_from(turns, lists, dyeing):
    """What is told with these points dyed: ("dyed", dyeing) or ("none", paper)."""
    p = chosen_point(turns, lists, dyeing)
    if p is None:
        return ("dyed", dyeing)
    left = dyes_left(turns, lists, dyeing, p)
    if not left:
        return ("none", ("full", p))
    papers = []
    for dye in lists[p]:
        if dye in left:
            told = searched_from(turns, lists, with_dye(dyeing, p, dye))
            if told[0] == "dyed":
                return told
            papers.append(told[1])
        else:
            papers.append(None)
    return ("none", ("choose", p, tuple(papers)))


def searched(web, lists):
    """A dyeing with each point's dye from its list, or a paper that there is none."""
    need_at_most(web, MOST_SEARCHED)
    return searched_from(web.turns(), lists, [None for p in range(web.many())])


def are_papers(turns, lists, dyeing, p, papers):
    """Whether these are the papers of a choice of p, with the other points dyed so."""
    if not isinstance(papers, tuple) or len(papers) != len(lists[p]):
        return False
    left = dyes_left(turns, lists, dyeing, p)
    for dye, paper in zip(lists[p], papers):
        if dye not in left:
            if paper is not None:
                return False
        elif not is_paper_from(turns, lists, with_dye(dyeing, p, dye), paper):
            return False
    return True


def is_paper_from(turns, lists, dyeing, paper):
    """Whether this is a paper with these points dyed."""
    # A choice dyes one point more, so however deep the tuples are, they are not followed further than there are points.
    if not isinstance(paper, tuple) or len(paper) not in (2, 3):
        return False
    word, p = paper[:2]
    if not is_among(p, len(dyeing)) or dyeing[p] is not None:
        return False
    if len(paper) == 2:
        return word == "full" and not dyes_left(turns, lists, dyeing, p)
    return word == "choose" and are_papers(turns, lists, dyeing, p, paper[2])


def is_paper(web, lists, paper):
    """Whether this is a paper of the web and the lists, whichever points it chooses."""
    return is_paper_from(web.turns(), lists, [None for p in range(web.many())], paper)
