"""Point 61: programs around which a piece breaks, or ends by a number."""

import unittest

from meanings import random_names, random_piece
from playsalike.arounds import Around, ended_around
from playsalike.assuming import assumed
from playsalike.breakers import breaker, ender
from playsalike.claims import claims_in, is_safe, least_break
from playsalike.endings import answers, play_for
from playsalike.errors import BadNumber, BadPiece, TooMany
from playsalike.pieces import Piece, function_of, made_piece
from playsalike.plays import has_play
from playsalike.playwrights import around_of
from samples import BOX, DO, NUM, ODD_VALUES, SKIP, name, number, some, too_great
from surroundings import Surrounded

X, V, GO = name("x"), name("v"), name("go")
NAMES = {"x": NUM, "v": BOX, "go": DO}
PLENTY = 10 ** 5


def piece(term, names=None, size=2):
    return Piece(size, NAMES if names is None else names, term)


def looks(many, last, kind="do"):
    """A piece that asks x so many times, and goes on with last if it always hears 1."""
    term = last
    for _ in range(many):
        term = ("if", X, term, ("never", "do" if kind == "do" else "num"))
    return made_piece(2, {"x": NUM}, term, kind)


class Breaker(unittest.TestCase):
    def test_by_hand(self):
        for term in (("claim", X), ("claim", number(0)), ("then", GO, ("claim", ("get", V))), ("then", ("set", V, X),
                                                                                               ("claim", ("same", X, ("get", V)))),
                     ("claim", ("same", X, X)), ("while", X, ("claim", ("not", X)))):
            around = breaker(piece(term))
            self.assertIsInstance(around, Around)
            self.assertEqual(ended_around(piece(term), around, PLENTY)[0], "broken")
            for other in (SKIP, ("while", X, GO)):
                self.assertNotEqual(ended_around(piece(other), around, PLENTY)[0], "broken")
        for term in (X, SKIP, ("claim", number(1)), ("if", number(0), ("claim", X), GO), ("then", ("never", "do"),
                                                                                          ("claim", X)),
                     ("new", "b", 0, ("then", ("set", name("b"), X), ("claim", ("same", ("get", name("b")),
                                                                                ("get", name("b"))))))):
            self.assertIsNone(breaker(piece(term)))

    def test_by_chance(self):
        rng = some(610)
        seen = {True: 0, False: 0}
        for _ in range(400):
            one = random_piece(rng, 5, size=rng.choice((2, 3)), nodes=3, most=3)
            around = breaker(piece=one)
            self.assertEqual(around is None, is_safe(one))
            seen[around is None] += 1
            if around is None:
                continue
            self.assertEqual(ended_around(one, around, PLENTY)[0], "broken")
            self.assertEqual(around, around_of(one, least_break(one)))
            try:
                mended = assumed(one, claims_in(one))
            except TooMany:
                continue
            self.assertNotEqual(ended_around(mended, around, PLENTY)[0], "broken")
            self.assertIsNone(breaker(mended))
        self.assertGreater(min(seen.values()), 25)

    def test_long_plays(self):
        false = ("claim", number(0))
        one = looks(99, false)
        self.assertEqual(Surrounded(one, breaker(one), PLENTY).told()[0], "broken")
        self.assertEqual(ended_around(one, breaker(one), PLENTY)[0], "broken")
        for many in (100, 150, 400):
            with self.assertRaises(TooMany) as caught:
                breaker(looks(many, false))
            self.assertEqual(caught.exception.most, 200)
        self.assertIsNone(breaker(looks(150, SKIP)))

    def test_errors(self):
        for thing in ODD_VALUES + [function_of(piece(X))]:
            with self.assertRaises(BadPiece) as caught:
                breaker(thing)
            self.assertIsNone(caught.exception.part)
        with self.assertRaises(TooMany) as caught:
            breaker(too_great({"x": NUM}, ("claim", number(0))))
        self.assertEqual(caught.exception.most, 2000)


class Ender(unittest.TestCase):
    def test_by_hand(self):
        one = piece(("if", X, ("get", V), number(0)))
        for n, wanted in ((0, "do"), (1, "do")):
            around = ender(one, n)
            self.assertEqual(ended_around(one, around, PLENTY)[0], wanted)
        # The least play to 0 asks x alone; the one to 1 asks for what is in v.
        self.assertEqual(ended_around(piece(("if", X, ("never", "num"), number(0))), ender(one, 0), PLENTY)[0], "do")
        self.assertEqual(ended_around(piece(("if", X, ("never", "num"), number(0))), ender(one, 1), PLENTY)[0], "on")
        self.assertEqual(ended_around(piece(("not", X)), ender(one, 0), PLENTY)[0], "on")
        self.assertIsNone(ender(piece(("never", "num")), 1))
        self.assertIsNone(ender(piece(("not", number(1))), 1))
        self.assertIsNone(ender(piece(("claim", number(0))), 0))
        self.assertEqual(ended_around(piece(GO), ender(piece=piece(GO), number=0), PLENTY)[0], "do")

    def test_by_chance(self):
        rng = some(611)
        seen = {True: 0, False: 0}
        for _ in range(80):
            names = random_names(rng, 3)
            one, other = (random_piece(rng, 5, size=rng.choice((2, 2)), nodes=3, names=names, kind="num")
                          for _ in range(2))
            for n in range(one.size):
                around = ender(one, n)
                self.assertEqual(around is None, n not in answers(one))
                if around is None:
                    continue
                play = play_for(one, n)
                self.assertEqual(ended_around(one, around, PLENTY)[0], "do")
                has = has_play(other, play)
                self.assertEqual(ended_around(other, around, PLENTY)[0] == "do", has)
                seen[has] += 1
        self.assertGreater(min(seen.values()), 10)

    def test_long_plays(self):
        one = looks(99, SKIP)
        self.assertEqual(ended_around(one, ender(one, 0), PLENTY)[0], "do")
        with self.assertRaises(TooMany) as caught:
            ender(looks(100, SKIP), 0)
        self.assertEqual(caught.exception.most, 200)
        one = looks(130, number(1), "num")
        self.assertIsNone(ender(one, 0))
        with self.assertRaises(TooMany) as caught:
            ender(one, 1)
        self.assertEqual(caught.exception.most, 200)

    def test_errors(self):
        for thing in ODD_VALUES:
            with self.assertRaises(BadPiece):
                ender(thing, None)
        for one, wrong in ((piece(X), (2, -1, None, True, "0", 1.0)), (piece(X, size=3), (3, False)),
                           (piece(SKIP), (1, 2, None, False)),
                           (too_great({"x": NUM}), (1, None))):
            for n in wrong:
                with self.assertRaises(BadNumber) as caught:
                    ender(one, n)
                self.assertEqual(caught.exception.part, "number")
        with self.assertRaises(TooMany) as caught:
            ender(too_great({"x": NUM}), 0)
        self.assertEqual(caught.exception.most, 2000)


if __name__ == "__main__":
    unittest.main()
