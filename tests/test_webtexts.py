"""Webs written and read (points 2, 5 and 9)."""

import itertools
import unittest

from mapdye.errors import MapError, NoText, NoWeb, TooMany
from mapdye.webs import Web
from mapdye.webtexts import read_web, show_web
from samples import CUBE, K4_PLANE, K4_TORUS, cycle, filled_turns, path, small_plane_turns, star, thinned, whole

LETTERS = "abcdefghijklmnopqrstuvwxyz"


def text_of(turns):
    """The text of any turns of up to 26 points, written from the words of point 9."""
    text = ""
    for p, row in enumerate(turns):
        text += "; " if p > 0 else ""
        text += LETTERS[p]
        for q in row:
            text += " " + LETTERS[q]
    return text


def turns_by_the_words(text):
    """The turns that a text tells, or None if it is no such text: read sign by sign."""
    turns = []
    rest = text
    while True:
        if rest == "" or len(turns) > 25 or rest[0] != LETTERS[len(turns)]:
            return None
        rest = rest[1:]
        row = []
        while rest[:1] == " ":
            if len(rest) < 2 or rest[1] not in LETTERS:
                return None
            row.append(LETTERS.index(rest[1]))
            rest = rest[2:]
        turns.append(row)
        if rest == "":
            return turns
        if rest[:2] != "; ":
            return None
        rest = rest[2:]


def outcome(call, thing):
    """What comes of a call, so that two can be compared."""
    try:
        return ("web", call(thing).turns())
    except NoWeb as refusal:
        return ("NoWeb", refusal.fault)
    except MapError as refusal:
        return (type(refusal).__name__,)


def outcome_by_the_words(text):
    turns = turns_by_the_words(text)
    return ("NoText",) if turns is None else outcome(Web, turns)


class Written(unittest.TestCase):
    def test_some_texts(self):
        for turns, text in (
            ([[]], "a"),
            ([[1], [0]], "a b; b a"),
            ([[1, 2], [2, 0], [0, 1]], "a b c; b c a; c a b"),
            ([[2, 1], [2, 0], [0, 1]], "a c b; b c a; c a b"),
            (K4_PLANE, "a b c d; b a d c; c a b d; d a c b"),
            (path(14), "a b; b a c; c b d; d c e; e d f; f e g; g f h; h g i; i h j; j i k; k j l; l k m; m l n; n m"),
        ):
            with self.subTest(text=text):
                self.assertEqual(show_web(Web(turns)), text)
                self.assertIs(type(show_web(Web(turns))), str)
                self.assertEqual(read_web(text).turns(), turns)
                self.assertIsInstance(read_web(text), Web)

    def test_there_and_back(self):
        webs = [K4_TORUS, CUBE, cycle(14), star(14), whole(14), whole(5)] + list(small_plane_turns(4))
        webs += [thinned(filled_turns(many, 3), many, 4) for many in range(3, 15)]
        for turns in webs:
            web = Web(turns)
            self.assertEqual(show_web(web), text_of(turns))
            self.assertEqual(read_web(show_web(web)).turns(), turns)
            self.assertEqual(show_web(read_web(text_of(turns))), text_of(turns))
            self.assertEqual(web.turns(), turns)

    def test_which_one_stands_first_is_kept(self):
        self.assertEqual(show_web(Web([[1, 2, 3], [0], [0], [0]])), "a b c d; b a; c a; d a")
        self.assertEqual(show_web(Web([[2, 3, 1], [0], [0], [0]])), "a c d b; b a; c a; d a")


class NoTexts(unittest.TestCase):
    def refused(self, texts):
        for text in texts:
            with self.subTest(text=text):
                self.assertRaises(NoText, read_web, text)
                self.assertIsNone(turns_by_the_words(text))

    def test_nothing_and_blanks(self):
        self.refused(["", " ", "  ", ";", "; ", " ;", "; ; "])

    def test_a_blank_too_many(self):
        self.refused([
            " a", "a ", " a b; b a", "a b; b a ", "a  b; b a", "a b ; b a", "a b;  b a", "a b; b  a", "a b; b a  ",
        ])

    def test_a_blank_too_few(self):
        self.refused(["ab; b a", "a b; ba", "a b;b a", "a bc; b a c; c a b", "ab", "a b; bac; c a b"])

    def test_a_semicolon_too_many_or_too_few(self):
        self.refused([
            "a;", "a; ", ";a", "; a", "a b; b a;", "a b; b a; ", "a b;; b a", "a b; ; b a", "a b; b; a", "a; b; b a",
            "a b; b a; ; ", "a; b b; a",
        ])
        # Without the semicolon it is another text: one point.
        self.assertEqual(outcome(read_web, "a b b a"), ("NoWeb", ("alien", 0, 1)))

    def test_points_out_of_order(self):
        self.refused([
            "b", "b a; a b", "a c; c a", "a b; b a; b a", "a b; a b", "b c; c b", "a b; c b; b a c", "z", "z a",
            "a b; b a; d a", "a b; b a d; d b",
        ])

    def test_other_signs(self):
        self.refused([
            "A", "a B; b a", "0 1; 1 0", "a 1; b a", "a b, b a", "a b: b a", "a,b; b,a", "a -b; b a", "a b; b a.", "`",
            "a `; b a", "a {; b a", "{", "a b; b a; c [", "a @", "~", "a_b; b a", "(a b; b a)", "a a1",
        ])
        for sign in range(32, 127):
            if chr(sign) not in LETTERS + "%":
                self.refused([chr(sign), "a " + chr(sign), chr(sign) + " a", "a" + chr(sign)])

    def test_two_letters_that_follow_each_other(self):
        self.refused(["a bc", "a ab; b a", "ab a", "a xyz", LETTERS])


class TooManyPoints(unittest.TestCase):
    def test_fourteen_and_fifteen(self):
        self.assertEqual(read_web(text_of(path(14))).turns(), path(14))
        self.assertEqual(read_web(text_of(cycle(14))).turns(), cycle(14))
        for many in range(15, 27):
            self.assertRaises(TooMany, read_web, text_of(path(many)))
            self.assertRaises(TooMany, read_web, text_of(cycle(many)))

    def test_twenty_six_and_twenty_seven(self):
        points = "; ".join(LETTERS)
        self.assertRaises(TooMany, read_web, points)
        for sign in "abz{A":
            self.assertRaises(NoText, read_web, points + "; " + sign)
        for many in (27, 28, 60):
            self.assertRaises(NoText, read_web, "; ".join((LETTERS * 3)[:many]))

    def test_no_text_goes_ahead(self):
        for text in (text_of(path(15)) + " ", text_of(path(26)) + ";", text_of(cycle(20)).replace("; ", ";", 1),
                     "; ".join(LETTERS[:14]) + "; p", "; ".join(LETTERS[1:])):
            self.assertRaises(NoText, read_web, text)

    def test_too_many_goes_ahead_of_no_web(self):
        for row in ("", " z", " a", " b b", " b"):
            self.assertRaises(TooMany, read_web, "; ".join(letter + row for letter in LETTERS[:15]))


class NoWebs(unittest.TestCase):
    def test_each_fault(self):
        for text, fault in (
            ("a z", ("alien", 0, 25)),
            ("a b", ("alien", 0, 1)),
            ("a b; b a c", ("alien", 1, 2)),
            ("a a", ("self", 0, 0)),
            ("a b b; b a", ("twice", 0, 1)),
            ("a b; b", ("lone", 0, 1)),
            ("a; b", ("apart", 0, 1)),
            ("a b; b a; c", ("apart", 0, 2)),
            ("a b; b a; c d; d c", ("apart", 0, 2)),
            ("a " + " ".join(LETTERS), ("alien", 0, 1)),
        ):
            with self.subTest(text=text):
                with self.assertRaises(NoWeb) as caught:
                    read_web(text)
                self.assertEqual(caught.exception.fault, fault)

    def test_no_text_goes_ahead(self):
        for text in ("a z ", "a z; c", "a a;", "b z", "a  b b", "a b; b;", "a;b", "a z; b !"):
            self.assertRaises(NoText, read_web, text)


class AllShortTexts(unittest.TestCase):
    def test_all_texts_of_a_few_signs(self):
        met = set()
        for size in range(8):
            for signs in itertools.product("ab; ", repeat=size):
                text = "".join(signs)
                expected = outcome_by_the_words(text)
                met.add(expected[0])
                self.assertEqual(outcome(read_web, text), expected, text)
        self.assertEqual(met, {"NoText", "NoWeb", "web"})

    def test_texts_with_a_sign_changed_put_in_or_left_out(self):
        for text in ("a b c; b c a; c a b", "a b; b a", "a", text_of(path(5)), text_of(K4_TORUS), text_of(path(15))):
            for place in range(len(text) + 1):
                others = [text[:place] + text[place + 1:]]
                for sign in "abcz; {A":
                    others += [text[:place] + sign + text[place:], text[:place] + sign + text[place + 1:]]
                for other in others:
                    self.assertEqual(outcome(read_web, other), outcome_by_the_words(other), other)


if __name__ == "__main__":
    unittest.main()
