"""Point 44, and the heart of point 40: programs that tell two pieces apart."""

import unittest

from meanings import random_names, random_piece
from playsalike.alike import less, same
from playsalike.arounds import Around, ended_around
from playsalike.errors import BadPiece, TooMany
from playsalike.evaluating import evaluated
from playsalike.arounds import whole_of
from playsalike.parters import parter
from playsalike.partings import beyond, parting
from playsalike.pieces import Function, Piece, function_of, made_piece, put
from playsalike.places import places, part_at
from playsalike.playwrights import around_of
from samples import BOX, DO, NUM, ODD_VALUES, SKIP, name, number, some, too_great
from termparts import changed

X, V, GO = name("x"), name("v"), name("go")
NAMES = {"x": NUM, "v": BOX, "go": DO}
PLENTY = 10 ** 5


def piece(term, names=None, size=2):
    return Piece(size, NAMES if names is None else names, term)


def written_otherwise(rng, one):
    """A piece that surely does the same: a part of it written otherwise."""
    at = rng.choice(places(one))
    part = part_at(one, at)
    word = part[0]

    def change(term):
        if word in ("sum", "not", "same", "below", "number") and one.size == 2 or word in ("number", "sum"):
            return ("sum", term, number(0))
        if word in ("skip", "while", "set", "claim"):
            return ("then", SKIP, term)
        if word == "then":
            return ("if", number(1), term, term)
        if word == "get":
            return ("new", "unused", 0, term)
        return term

    return made_piece(one.size, one.names, changed(one.term, at, change), one.kind)


class Parter(unittest.TestCase):
    def check(self, one, other):
        """What parter tells, and that the evaluator tells both apart by it."""
        found = parter(one, other)
        if same(one, other):
            self.assertIsNone(found)
            return None
        around, which = found
        self.assertIsInstance(around, Around)
        told = [ended_around(each, around, PLENTY) for each in (one, other)]
        play, wanted = parting(one, other)
        self.assertEqual((around, which), (around_of(one, play), wanted))
        ending = "broken" if play[-1] == ("break",) else "do"
        self.assertEqual(told[which][0], ending)
        self.assertNotEqual(told[1 - which][0], ending)
        self.assertEqual(evaluated(whole_of((one, other)[which], around), PLENTY), told[which])
        self.assertEqual(parter(other, one), (around, 1 - which))
        return which

    def test_by_hand(self):
        false = ("claim", number(0))
        for one, other, wanted in (
                (("sum", X, X), ("sum", X, ("sum", X, number(0))), None),
                (X, ("not", X), 0),
                (X, number(0), 1),
                (number(0), X, 0),
                (("sum", X, X), number(0), 1),
                (("same", X, X), number(1), 1),
                (("while", X, GO), ("if", X, ("then", GO, ("while", X, GO)), SKIP), None),
                (("while", X, GO), ("if", X, ("then", GO, ("while", X, SKIP)), SKIP), 1),
                (("then", GO, false), false, 1),
                (false, SKIP, 0),
                (("claim", X), ("if", X, SKIP, ("never", "do")), 0),
                (("then", ("set", V, X), ("get", V)), ("then", ("set", V, X), X), 1),
                (("never", "num"), ("then", ("while", number(1), GO), X), None)):
            with self.subTest(one=one, other=other):
                self.assertEqual(self.check(piece(one), piece(other)), wanted)

    def test_pieces_that_surely_do_the_same(self):
        rng = some(440)
        unlike = 0
        for _ in range(150):
            one = random_piece(rng, 5, size=2, nodes=4, most=3)
            other = written_otherwise(rng, one)
            unlike += other != one
            self.assertTrue(same(one, other), (one.term, other.term))
            self.assertIsNone(parter(one, other))
            around = around_of(one, self.some_play(rng, one))
            self.assertEqual(ended_around(one, around, PLENTY)[:2], ended_around(other, around, PLENTY)[:2])
        self.assertGreater(unlike, 80)

    def some_play(self, rng, one):
        return [("ask",), ("num", 0) if one.kind == "num" else ("do",)]

    def test_nearly_the_same(self):
        rng = some(441)
        seen = {}
        for _ in range(150):
            names = random_names(rng, 3)
            one = random_piece(rng, 5, size=2, nodes=4, names=names)
            numbers = [at for at in places(one) if part_at(one, at)[0] == "number"]
            if not numbers:
                continue
            other = Piece(2, names, changed(one.term, rng.choice(numbers), lambda term: number(1 - term[1])))
            which = self.check(one, other)
            seen[which] = seen.get(which, 0) + 1
        self.assertGreater(min(seen[None], seen[0], seen[1]), 5)

    def test_by_chance(self):
        rng = some(442)
        seen = {}
        for _ in range(120):
            names = random_names(rng, 3)
            size, kind = rng.choice((2, 3, 4)), rng.choice(("num", "do"))
            one, other = (random_piece(rng, 4, size=size, nodes=2, names=names, kind=kind) for _ in range(2))
            which = self.check(one, other)
            seen[which] = seen.get(which, 0) + 1
        self.assertGreater(min(seen[0], seen[1]), 20)

    def test_less_by_a_program(self):
        # A program shows that one is not less: it ends, or breaks, around this one, and not so around the other.
        rng = some(443)
        shown = 0
        for _ in range(150):
            names = random_names(rng, 2)
            one, other = (random_piece(rng, 4, size=2, nodes=2, names=names, kind="do") for _ in range(2))
            play = beyond(one, other)
            self.assertEqual(play is None, less(one, other))
            if play is None:
                continue
            around = around_of(one, play)
            told = [ended_around(each, around, PLENTY)[0] for each in (one, other)]
            self.assertEqual(told[0], "broken" if play[-1] == ("break",) else "do")
            self.assertNotEqual(told[1], told[0])
            shown += 1
        self.assertGreater(shown, 40)

    def test_too_many(self):
        def looks(many, last):
            term = last
            for _ in range(many):
                term = ("if", X, term, ("never", "num"))
            return made_piece(2, {"x": NUM}, term, "num")

        self.assertEqual(self.check(looks(99, number(0)), looks(99, number(1))), 0)
        for many in (100, 300):
            with self.assertRaises(TooMany) as caught:
                parter(looks(many, number(0)), looks(many, number(1)))
            self.assertEqual(caught.exception.most, 200)
            self.assertIsNone(parter(looks(many, number(0)), put(looks(many, number(0)), "x",
                                                                 function_of(piece(X, {"x": NUM})))))
        with self.assertRaises(TooMany) as caught:
            parter(too_great({"x": NUM}), Piece(2, {"x": NUM}, SKIP))
        self.assertEqual(caught.exception.most, 2000)

    def test_errors_in_their_sequence(self):
        right = piece(X)
        for thing in ODD_VALUES + [Function(2, {}, (), SKIP)]:
            for pair in ((thing, right), (right, thing), (thing, Piece(3, {}, SKIP))):
                with self.assertRaises(BadPiece) as caught:
                    parter(*pair)
                self.assertIsNone(caught.exception.part)
        for other in (piece(X, size=3), piece(GO), piece(X, {"x": NUM})):
            with self.assertRaises(BadPiece) as caught:
                parter(piece=right, other=other)
            self.assertEqual(caught.exception.part, "kind")


if __name__ == "__main__":
    unittest.main()
