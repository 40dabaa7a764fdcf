"""Points 30 and 70: moves, who makes them, and which ones there are of a piece."""

import unittest
from itertools import product

from playsalike.errors import BadMove, BadPiece
from playsalike.heardmoves import heard_moves, told_moves
from playsalike.letters import in_order
from playsalike.moves import moves_of, teller
from playsalike.pieces import Function, Piece
from samples import BOX, DO, NUM, ODD_VALUES, SKIP, name, number, some

PLAIN = ("num", "do", "box")


def reference(size, names, kind):
    """The moves that surroundings make and those that the piece makes, as point 70 tells them."""
    heard, told = [("ask",)], [("break",)]
    told += [("num", n) for n in range(size)] if kind == "num" else [("do",)]
    for w, (args, s) in names.items():
        if s == "num":
            told.append(("call", w))
            heard += [("num", w, n) for n in range(size)]
        if s == "do":
            told.append(("call", w))
            heard.append(("did", w))
        if s == "box":
            told += [("get", w)] + [("set", w, n) for n in range(size)]
            heard += [("kept", w)] + [("value", w, n) for n in range(size)]
        for i, plain in enumerate(args):
            if plain == "num":
                heard.append(("ask", w, i))
                told += [("num", w, i, n) for n in range(size)]
            if plain == "do":
                heard.append(("ask", w, i))
                told.append(("did", w, i))
            if plain == "box":
                heard += [("get", w, i)] + [("set", w, i, n) for n in range(size)]
                told += [("kept", w, i)] + [("value", w, i, n) for n in range(size)]
    return heard, told


class Moves(unittest.TestCase):
    def test_by_hand(self):
        piece = Piece(2, {"f": (("num",), "num")}, number(0))
        self.assertEqual(told_moves(piece), [
            ("break",), ("call", "f"), ("num", 0), ("num", 1), ("num", "f", 0, 0), ("num", "f", 0, 1)])
        self.assertEqual(heard_moves(piece), [("ask",), ("ask", "f", 0), ("num", "f", 0), ("num", "f", 1)])
        self.assertEqual(moves_of(piece), [
            ("ask",), ("break",), ("call", "f"), ("num", 0), ("num", 1), ("ask", "f", 0), ("num", "f", 0),
            ("num", "f", 1), ("num", "f", 0, 0), ("num", "f", 0, 1)])
        piece = Piece(2, {"v": BOX}, SKIP)
        self.assertEqual(told_moves(piece), [("break",), ("do",), ("get", "v"), ("set", "v", 0), ("set", "v", 1)])
        self.assertEqual(heard_moves(piece), [("ask",), ("kept", "v"), ("value", "v", 0), ("value", "v", 1)])

    def test_without_names(self):
        self.assertEqual(heard_moves(Piece(2, {}, SKIP)), [("ask",)])
        self.assertEqual(told_moves(piece=Piece(3, {}, number(0))), [("break",), ("num", 0), ("num", 1), ("num", 2)])
        self.assertEqual(moves_of(piece=Piece(2, {}, SKIP)), [("ask",), ("break",), ("do",)])

    def test_names_of_all_sorts(self):
        sorts = [(taken, given) for many in range(4) for taken in product(PLAIN, repeat=many)
                 for given in PLAIN if given != "box" or not taken]
        rng = some(70)
        rng.shuffle(sorts)
        while sorts:
            names = {word: sorts.pop() for word in rng.sample(("a", "z", "num", "ask", "ab", "call"), 4) if sorts}
            for size in (2, 3, 4):
                for term, kind in ((number(0), "num"), (SKIP, "do")):
                    self.check(Piece(size, names, term), kind)

    def check(self, piece, kind):
        heard, told = reference(piece.size, piece.names, kind)
        self.assertEqual(heard_moves(piece=piece), in_order(heard))
        self.assertEqual(told_moves(piece), in_order(told))
        self.assertEqual(moves_of(piece), in_order(heard + told))
        self.assertEqual(len(moves_of(piece)), len(heard) + len(told))
        for move in heard:
            self.assertEqual(teller(move), "around")
        for move in told:
            self.assertEqual(teller(move), "piece")

    def test_whatever_stands_in_the_term(self):
        names = {"x": NUM, "go": DO, "v": BOX}
        self.assertEqual(moves_of(Piece(2, names, SKIP)), moves_of(Piece(2, names, ("then", name("go"), SKIP))))

    def test_lists_are_new(self):
        piece = Piece(2, {"x": NUM}, SKIP)
        for call in (heard_moves, told_moves, moves_of):
            call(piece).clear()
            self.assertGreater(len(call(piece)), 1)

    def test_no_pieces(self):
        for thing in ODD_VALUES + [Function(2, {}, (), SKIP)]:
            for call in (heard_moves, told_moves, moves_of):
                with self.assertRaises(BadPiece) as caught:
                    call(thing)
                self.assertIsNone(caught.exception.part)

    def test_tellers(self):
        told = [("num", 0), ("num", 3), ("do",), ("break",), ("call", "w"), ("get", "w"), ("set", "w", 3),
                ("num", "w", 2, 3), ("did", "w", 0), ("value", "w", 1, 0), ("kept", "w", 2), ("value", 3),
                ("kept",), ("call", "abcdefgh")]
        heard = [("ask",), ("num", "w", 0), ("did", "w"), ("value", "w", 3), ("kept", "w"), ("ask", "w", 2),
                 ("get", "w", 0), ("set", "w", 2, 3), ("get",), ("set", 0), ("num", "num", 3)]
        for move in told:
            self.assertEqual(teller(move), "piece")
        for move in heard:
            self.assertEqual(teller(move=move), "around")

    def test_no_moves(self):
        wrong = [("num", 4), ("num", -1), ("num", True), ("num", 1.0), ("num",), ("num", "w"), ("num", "w", 4),
                 ("num", "w", 3, 0), ("num", "w", 0, 4), ("num", 0, 0, 0), ("num", "W", 0), ("do", "w"), ("do", 0),
                 ("break", "w"), ("call",), ("call", "W"), ("call", 0), ("call", "w", 0), ("get", 0),
                 ("get", "w", 3), ("get", "w", 0, 0), ("set",), ("set", "w"), ("set", "w", 4), ("set", "w", 3, 0),
                 ("set", 4), ("did",), ("did", 0), ("did", "w", 3), ("did", "w", 0, 0), ("value",),
                 ("value", "w"), ("value", 4), ("value", "w", 4), ("kept", 0), ("kept", "w", 3),
                 ("kept", "w", 0, 0), ("ask", "w"), ("ask", "w", 3), ("ask", 0), ("ask", "w", 0, 0),
                 ["ask"], ["num", 0], "ask", ("Ask",), ("asks",), ("ask", "w", True), ("set", "w", False),
                 ("a",), (("ask",),), ("call", ("w",)), ("num", "abcdefghi", 0), ("on",), (None,)]
        for thing in wrong + [thing for thing in ODD_VALUES]:
            with self.assertRaises(BadMove):
                teller(thing)


if __name__ == "__main__":
    unittest.main()
