"""Point 36: machines of pieces and functions that play one another."""

import unittest

from meanings import SORTS, random_function, random_names, random_piece
from playsalike.composing import composed
from playsalike.errors import BadClaims, BadPiece, TooMany
from playsalike.functions import machine_of_function
from playsalike.moves import moves_of
from playsalike.pieces import Function, Piece, made_piece, put
from playsalike.plays import machine_of
from samples import BOX, DO, NUM, ODD_VALUES, SKIP, name, number, some, too_great

X, P, B, V, GO = name("x"), name("p"), name("b"), name("v"), name("go")
F = {"f": (("num",), "num")}
P_NUM = (("p", "num"),)


def breaks(machine):
    """Whether some row that the machine takes ends with a break."""
    return any(machine.letters[k] == ("break",) for row in machine.ways for k, _ in row)


class Composing(unittest.TestCase):
    def check(self, piece, word, function):
        whole = put(piece, word, function)
        machine = composed(piece=piece, word=word, function=function)
        self.assertEqual(machine, machine_of(whole))
        self.assertEqual(machine.letters, tuple(moves_of(whole)))
        return machine

    def test_by_hand(self):
        twice = Function(2, {"x": NUM}, P_NUM, ("sum", ("sum", P, X), P))
        self.check(Piece(2, F, name("f", number(1))), "f", twice)
        self.check(Piece(2, F, name("f", name("f", name("f", number(1))))), "f", twice)
        self.check(Piece(2, {**F, "x": NUM}, ("sum", name("f", ("sum", X, name("f", X))), X)), "f", twice)
        self.check(Piece(2, F, ("while", name("f", number(1)), SKIP)), "f", Function(2, {}, P_NUM, P))
        self.check(Piece(2, F, ("while", name("f", number(1)), SKIP)), "f", Function(2, {"x": NUM}, P_NUM, X))
        self.check(Piece(2, F, SKIP), "f", twice)

    def test_parameters_with_words_of_the_piece(self):
        piece = Piece(3, {**F, "p": NUM, "x": NUM}, ("sum", name("f", ("sum", P, X)), P))
        self.check(piece, "f", Function(3, {"x": NUM}, P_NUM, ("less", P, ("sum", X, P))))
        self.check(piece, "f", Function(3, {"p": NUM}, (("x", "num"),), ("less", P, ("sum", X, X))))
        self.check(piece, "f", Function(3, {"p": NUM}, (("f", "num"),), ("sum", name("f"), ("sum", P, name("f")))))

    def test_the_word_as_a_name_of_the_function(self):
        inner = Function(2, F, P_NUM, ("sum", name("f", ("not", P)), P))
        machine = self.check(Piece(2, F, name("f", name("f", number(1)))), "f", inner)
        self.assertIn(("call", "f"), machine.letters)
        self.check(Piece(2, {**F, "x": NUM}, name("f", X)), "f", Function(2, F, P_NUM, name("f", name("f", P))))

    def test_boxes(self):
        piece = Piece(2, {"v": BOX, "x": NUM}, ("then", ("set", V, X), ("sum", ("get", V), ("get", V))))
        self.check(piece, "v", Function(2, {"w": BOX}, (), name("w")))
        self.check(piece, "v", Function(2, {"x": NUM, "v": BOX}, (), ("made", X, "x", ("set", V, ("not", X)))))
        self.check(piece, "v", Function(2, {"go": DO}, (), ("made", ("then", GO, number(1)), "n", GO)))
        self.check(piece, "v", Function(2, {}, (), ("made", ("never", "num"), "n", SKIP)))
        asked = Piece(2, {"f": (("box",), "do"), "v": BOX}, ("then", name("f", V), name("f", ("made", ("get", V), "n", SKIP))))
        self.check(asked, "v", Function(2, {"f": (("box",), "do"), "x": NUM}, (), ("made", X, "n", ("if", name("n"), ("set", (
            "made", X, "m", SKIP), X), SKIP))))
        self.check(asked, "f", Function(2, {"x": NUM}, (("p", "box"),), ("set", P, ("sum", ("get", P), X))))

    def test_never_ending_talk_within(self):
        flips = Function(2, {"x": NUM}, (("p", "box"),), ("while", ("get", P), ("set", P, ("if", X, number(0), number(1)))))
        self.check(Piece(2, {"f": (("box",), "do")}, ("new", "b", 1, name("f", B))), "f", flips)
        ever = Function(2, {}, (("p", "box"),), ("while", number(1), ("set", P, ("not", ("get", P)))))
        chosen = Piece(2, {"f": (("box",), "do"), "x": NUM}, ("if", X, SKIP, ("new", "b", 1, name("f", B))))
        machine = self.check(chosen, "f", ever)
        self.assertEqual(len(machine.ways), 5)

    def test_by_chance(self):
        rng = some(36)
        done = claims = greatest = 0
        for _ in range(700):
            names = random_names(rng, 3, SORTS)
            if not names:
                continue
            word = rng.choice(sorted(names))
            size = rng.choice((2, 2, 3))
            piece = random_piece(rng, rng.choice((4, 5, 6)), names=names, size=size, nodes=4, claims=rng.random() < 0.3)
            function = random_function(rng, size, names[word], {"z": NUM, "y": DO, **names}, rng.choice((3, 4, 5)),
                                       rng.random() < 0.3, ("p", "x", "r"))
            try:
                machine = self.check(piece, word, function)
            except BadPiece:
                continue
            except BadClaims:
                self.assertTrue(breaks(machine_of(piece)) or breaks(machine_of_function(function)))
                claims += 1
                continue
            self.assertFalse(breaks(machine_of(piece)) or breaks(machine_of_function(function)))
            done += 1
            greatest = max(greatest, len(machine.ways))
        self.assertGreater(done, 400)
        self.assertGreater(claims, 15)
        self.assertGreater(greatest, 60)

    def test_claims(self):
        holds = ("claim", number(1))
        broken = ("claim", X)
        piece = Piece(2, {"go": DO, "x": NUM}, ("then", GO, holds))
        self.check(piece, "go", Function(2, {"x": NUM}, (), ("then", holds, ("if", X, SKIP, SKIP))))
        with self.assertRaises(BadClaims):
            composed(piece, "go", Function(2, {"x": NUM}, (), broken))
        with self.assertRaises(BadClaims):
            composed(Piece(2, {"go": DO, "x": NUM}, ("then", GO, broken)), "go", Function(2, {}, (), SKIP))
        with self.assertRaises(BadClaims):
            composed(Piece(2, {"go": DO, "x": NUM}, ("if", X, SKIP, ("claim", number(0)))), "go", Function(2, {}, (), SKIP))
        # What cannot be come to breaks nothing; what is never called is a function all the same.
        self.check(Piece(2, {"go": DO, "x": NUM}, ("then", ("never", "do"), broken)), "go", Function(2, {}, (), SKIP))
        with self.assertRaises(BadClaims):
            composed(Piece(2, {"go": DO, "x": NUM}, SKIP), "go", Function(2, {"x": NUM}, (), broken))
        with self.assertRaises(BadClaims):
            composed(Piece(2, {"v": BOX}, SKIP), "v", Function(2, {}, (), ("made", number(0), "n", ("claim", name("n")))))

    def test_errors_in_their_sequence(self):
        piece = Piece(2, {**F, "x": NUM, "v": BOX}, name("f", X))
        same = Function(2, {}, P_NUM, P)
        for thing in ODD_VALUES + [same]:
            with self.assertRaises(BadPiece) as caught:
                composed(thing, "f", None)
            self.assertIsNone(caught.exception.part)
        for word in ("y", "", None, 0, ("f",), ["f"], "F"):
            with self.assertRaises(BadPiece) as caught:
                composed(piece, word, None)
            self.assertEqual(caught.exception.part, "word")
        for other in ODD_VALUES + [piece, Function(3, {}, P_NUM, P), Function(2, {}, (), number(0)),
                                   Function(2, {}, P_NUM, SKIP), Function(2, {}, (("p", "do"),), number(0))]:
            with self.assertRaises(BadPiece) as caught:
                composed(piece, "f", other)
            self.assertEqual(caught.exception.part, "other")
        broken = ("then", ("claim", number(0)), P)
        for names in ({"x": DO}, {"v": NUM}, {"y": DO, "z": DO, "w": DO}):
            with self.assertRaises(BadPiece) as caught:
                composed(piece, "f", Function(2, names, P_NUM, broken))
            self.assertEqual(caught.exception.part, "names")

    def test_too_many_states(self):
        looks = ("if", X, SKIP, SKIP)
        great = too_great({"x": NUM, "go": DO}, GO)
        with self.assertRaises(TooMany) as caught:
            composed(great, "go", Function(2, {}, (), SKIP))
        self.assertEqual(caught.exception.most, 2000)
        with self.assertRaises(BadClaims):
            composed(great, "go", Function(2, {}, (), ("claim", number(0))))
        many = GO
        for _ in range(90):
            many = ("then", GO, many)
        looking = Function(2, {"x": NUM}, (), ("then", ("then", looks, looks), ("then", looks, ("then", looks, looks))))
        self.check(made_piece(2, {"go": DO}, many, "do"), "go", looking)
        for _ in range(120):
            many = ("then", GO, many)
        with self.assertRaises(TooMany) as caught:
            composed(made_piece(2, {"go": DO}, many, "do"), "go", looking)
        self.assertEqual(caught.exception.most, 2000)


if __name__ == "__main__":
    unittest.main()
