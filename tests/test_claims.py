"""Point 60: the places of claims, safe pieces, and the least broken play."""

import unittest

from meanings import random_piece
from playsalike.claims import claims_in, is_safe, least_break
from playsalike.errors import BadPiece, TooMany
from playsalike.outcomes import outcome
from playsalike.pieces import Function, Piece, put_in
from playsalike.places import part_at, places
from playsalike.plays import plays_up_to
from samples import BOX, DO, NUM, ODD_VALUES, SKIP, name, number, some, too_great

ASK, BREAK = ("ask",), ("break",)
X, B = name("x"), name("b")
TWICE = Piece(2, {"x": NUM}, ("claim", ("same", X, X)))


class Claims(unittest.TestCase):
    def test_by_hand(self):
        self.assertFalse(is_safe(TWICE))
        self.assertEqual(least_break(piece=TWICE), (
            ASK, ("call", "x"), ("num", "x", 0), ("call", "x"), ("num", "x", 1), BREAK))
        self.assertTrue(is_safe(piece=put_in(TWICE, "x", Function(2, {}, (), number(1)))))
        kept = Piece(2, {"x": NUM}, ("new", "b", 0, ("then", ("set", B, X), ("claim", ("same", ("get", B), ("get", B))))))
        self.assertIsNone(least_break(kept))
        self.assertTrue(is_safe(kept))

    def test_places(self):
        self.assertEqual(claims_in(TWICE), [()])
        self.assertEqual(claims_in(Piece(2, {}, SKIP)), [])
        term = ("then", name("f", ("claim", ("then", ("claim", X), X)), X), ("set", (
            "made", number(0), "w", ("claim", name("w"))), ("then", ("claim", number(1)), X)))
        piece = Piece(2, {"f": (("do", "num"), "do"), "x": NUM}, term)
        self.assertEqual(claims_in(piece=piece), [(1, 2, 0), (1, 2, 0, 1, 1), (2, 1, 3), (2, 2, 1)])
        rng = some(60)
        for _ in range(150):
            piece = random_piece(rng, 7)
            self.assertEqual(claims_in(piece), [at for at in places(piece) if part_at(piece, at)[0] == "claim"])

    def test_the_least_one(self):
        def told(term, names):
            return least_break(Piece(3, names, term))

        self.assertEqual(told(("claim", number(0)), {}), (ASK, BREAK))
        self.assertIsNone(told(("claim", number(2)), {}))
        self.assertIsNone(told(("then", ("never", "do"), ("claim", number(0))), {}))
        x = {"x": NUM}
        longer = ("then", ("if", X, SKIP, SKIP), ("claim", number(0)))
        self.assertEqual(told(("if", X, ("claim", number(0)), longer), x), (ASK, ("call", "x"), ("num", "x", 1), BREAK))
        self.assertEqual(told(("if", X, longer, ("claim", number(0))), x), (ASK, ("call", "x"), ("num", "x", 0), BREAK))
        # Unbroken plays may be shorter, also where they begin as broken ones do.
        self.assertEqual(told(("if", X, longer, SKIP), x), (
            ASK, ("call", "x"), ("num", "x", 1), ("call", "x"), ("num", "x", 0), BREAK))
        self.assertEqual(told(("while", X, ("claim", X)), x), (
            ASK, ("call", "x"), ("num", "x", 1), ("call", "x"), ("num", "x", 0), BREAK))

    def test_by_chance_against_rows(self):
        rng = some(61)
        seen = {True: 0, False: 0}
        for _ in range(400):
            piece = random_piece(rng, 6, most=2)
            try:
                broken = [tuple(row) for row in plays_up_to(piece, 12) if row[-1] == BREAK]
            except TooMany:
                continue
            least = least_break(piece)
            if broken:
                self.assertEqual(least, broken[0])
            elif least is not None:
                self.assertGreater(len(least), 12)
            self.assertIs(is_safe(piece), least is None)
            seen[is_safe(piece)] += 1
        self.assertGreater(min(seen.values()), 40)

    def test_no_program_breaks_in_what_is_safe(self):
        rng = some(62)
        functions = {"x": [number(0), number(1), ("never", "num")], "go": [SKIP, ("never", "do")]}
        for _ in range(150):
            piece = random_piece(rng, 5, size=2, names={"x": NUM, "go": DO}, nodes=3)
            breaks = False
            for first in functions["x"]:
                for second in functions["go"]:
                    whole = put_in(put_in(piece, "x", Function(2, {}, (), first)), "go", Function(2, {}, (), second))
                    breaks = breaks or outcome(whole)[0] == "broken"
            if breaks:
                self.assertFalse(is_safe(piece))
            if is_safe(piece):
                self.assertFalse(breaks)

    def test_errors(self):
        for thing in ODD_VALUES + [Function(2, {}, (), SKIP)]:
            for call in (claims_in, least_break, is_safe):
                with self.assertRaises(BadPiece) as caught:
                    call(thing)
                self.assertIsNone(caught.exception.part)
        great = too_great({"x": NUM, "v": BOX}, ("claim", X))
        self.assertEqual(len(claims_in(great)), 1)
        for call in (least_break, is_safe):
            with self.assertRaises(TooMany) as caught:
                call(great)
            self.assertEqual(caught.exception.most, 2000)


if __name__ == "__main__":
    unittest.main()
