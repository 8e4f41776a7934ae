"""Webs as texts: each point by its letter, and behind it those in its turn."""

from mapdye.errors import NoText
from mapdye.webs import Web

LETTERS = "abcdefghijklmnopqrstuvwxyz"


def show_web(web):
    """The text of the web."""
    rows = [[p] + row for p, row in enumerate(web.turns())]
    return "; ".join([" ".join([LETTERS[p] for p in row]) for row in rows])


def point_of(sign):
    """The point for which the sign stands."""
    # Python finds the empty text, and runs of several letters, in LETTERS as well.
    if len(sign) != 1 or sign not in LETTERS:
        raise NoText("the text has something else where a letter is due")
    return LETTERS.index(sign)


def read_web(text):
    """The web of which this is the text."""
    rows = [[point_of(sign) for sign in part.split(" ")] for part in text.split("; ")]
    # Behind z no letter comes, so a row beyond it is out of order whatever it begins with.
    if [row[0] for row in rows] != list(range(len(rows))):
        raise NoText("the points do not stand in order")
    return Web([row[1:] for row in rows])
