"""Point 35: the plays of functions."""

import unittest
from itertools import product

from meanings import SORTS, machine_of_function_by_rows, random_function
from playsalike.asking import rows_of
from playsalike.errors import BadPiece, TooMany
from playsalike.functions import function_moves, machine_of_function
from playsalike.letters import in_order
from playsalike.machines import takes
from playsalike.makers import nothing
from playsalike.moves import moves_of, teller
from playsalike.pieces import Function, Piece, function_of, made_function
from playsalike.plays import machine_of
from samples import BOX, DO, NUM, ODD_VALUES, SKIP, name, number, some

ASK = ("ask",)
X, P, V = name("x"), name("p"), name("v")


class Moves(unittest.TestCase):
    def test_by_hand(self):
        function = Function(2, {"x": NUM}, (("p", "num"), ("q", "do"), ("r", "box")), SKIP)
        self.assertEqual(function_moves(function=function), in_order([
            ASK, ("do",), ("break",), ("call", "x"), ("num", "x", 0), ("num", "x", 1), ("call", "p"), ("num", "p", 0),
            ("num", "p", 1), ("call", "q"), ("did", "q"), ("get", "r"), ("value", "r", 0), ("value", "r", 1),
            ("set", "r", 0), ("set", "r", 1), ("kept", "r")]))
        self.assertEqual(function_moves(Function(3, {}, (), number(0))), [
            ASK, ("break",), ("num", 0), ("num", 1), ("num", 2)])

    def test_boxes(self):
        self.assertEqual(function_moves(Function(2, {}, (), ("made", number(0), "w", SKIP))), [
            ("break",), ("get",), ("kept",), ("set", 0), ("set", 1), ("value", 0), ("value", 1)])
        self.assertEqual(function_moves(Function(2, {"v": BOX}, (), V)), in_order([
            ("break",), ("get",), ("kept",), ("set", 0), ("set", 1), ("value", 0), ("value", 1), ("get", "v"),
            ("set", "v", 0), ("set", "v", 1), ("value", "v", 0), ("value", "v", 1), ("kept", "v")]))

    def test_params_of_all_sorts(self):
        for many in range(4):
            for plain in product(("num", "do", "box"), repeat=many):
                for term, given in ((number(0), "num"), (SKIP, "do")):
                    params = tuple(zip("pqr", plain))
                    function = Function(4, {"x": (("num",), "num")}, params, term)
                    names = {"x": (("num",), "num"), **{word: ((), sort) for word, sort in params}}
                    piece = Piece(4, names, term)
                    self.assertEqual(function_moves(function), moves_of(piece))
                    self.assertEqual(machine_of_function(function), machine_of(piece))
                    for move in function_moves(function):
                        teller(move)

    def test_seven_names(self):
        names = {word: (("box", "box", "box"), "num") for word in "abcd"}
        function = Function(4, names, (("p", "box"), ("q", "box"), ("r", "box")), ("sum", ("get", P), ("get", name("r"))))
        moves = function_moves(function)
        self.assertEqual(len(moves), 176)
        self.assertEqual(machine_of_function(function).letters, tuple(moves))
        self.assertEqual(len(rows_of(machine_of_function(function), 100)), 16)


class Machines(unittest.TestCase):
    def rows(self, function, most=100):
        return rows_of(machine_of_function(function), most)

    def test_by_hand(self):
        function = Function(2, {"x": NUM}, (("p", "num"),), ("sum", P, X))
        self.assertEqual(self.rows(function), [
            [ASK, ("call", "p"), ("num", "p", n), ("call", "x"), ("num", "x", m), ("num", (n + m) % 2)]
            for n in range(2) for m in range(2)])
        function = Function(2, {}, (("p", "box"),), ("set", P, number(1)))
        self.assertEqual(self.rows(function), [[ASK, ("set", "p", 1), ("kept", "p"), ("do",)]])
        self.assertEqual(machine_of_function(function=Function(2, {}, (), ("never", "do"))),
                         nothing([ASK, ("break",), ("do",)]))

    def test_boxes_by_hand(self):
        made = Function(2, {"x": NUM, "go": DO}, (), ("made", X, "w", ("if", name("w"), name("go"), ("claim", X))))
        gets = [[("get",), ("call", "x"), ("num", "x", n), ("value", n)] for n in range(2)]
        sets = [[("set", 0), ("call", "x"), ("num", "x", 1), ("kept",)], [("set", 1), ("call", "go"), ("did", "go"), ("kept",)]]
        broken = [("set", 0), ("call", "x"), ("num", "x", 0), ("break",)]
        found = self.rows(made)
        self.assertEqual(len(found), 5)
        for row in gets + sets + [broken]:
            self.assertIn(row, found)
        self.assertEqual(self.rows(Function(2, {"v": BOX}, (), V)), [
            [("get",), ("get", "v"), ("value", "v", 0), ("value", 0)], [("get",), ("get", "v"), ("value", "v", 1), ("value", 1)],
            [("set", 0), ("set", "v", 0), ("kept", "v"), ("kept",)], [("set", 1), ("set", "v", 1), ("kept", "v"), ("kept",)]])
        breaks = Function(2, {}, (), ("made", ("then", ("claim", number(0)), number(1)), "w", SKIP))
        self.assertEqual(self.rows(breaks), [[("get",), ("break",)], [("set", 0), ("kept",)], [("set", 1), ("kept",)]])
        never = Function(2, {}, (), ("made", ("never", "num"), "w", ("claim", name("w"))))
        self.assertEqual(self.rows(never), [[("set", 0), ("break",)], [("set", 1), ("kept",)]])

    def test_functions_without_params_are_their_pieces(self):
        rng = some(35)
        from meanings import random_piece
        for _ in range(60):
            piece = random_piece(rng, 5)
            self.assertEqual(machine_of_function(function_of(piece)), machine_of(piece))

    def test_by_chance_against_rows(self):
        rng = some(350)
        boxes = 0
        for _ in range(250):
            sort = rng.choice(SORTS + [BOX, BOX, BOX])
            names = {"x": NUM, "f": (("num",), "num"), "v": BOX, "go": (("do",), "do")}
            function = random_function(rng, rng.choice((2, 3)), sort, names, rng.choice((3, 4, 5)))
            machine = machine_of_function(function)
            self.assertEqual(machine, machine_of_function_by_rows(function))
            self.assertEqual(machine.letters, tuple(function_moves(function)))
            boxes += sort == BOX
        self.assertGreater(boxes, 50)

    def test_the_same_word_for_own_boxes(self):
        function = Function(2, {"x": NUM}, (("p", "num"),), ("new", "p", 1, ("sum", ("get", P), X)))
        self.assertEqual(self.rows(function), [
            [ASK, ("call", "x"), ("num", "x", n), ("num", 1 - n)] for n in range(2)])
        self.assertIn(("call", "p"), function_moves(function))

    def test_errors(self):
        for thing in ODD_VALUES + [Piece(2, {}, SKIP)]:
            for call in (function_moves, machine_of_function):
                with self.assertRaises(BadPiece) as caught:
                    call(thing)
                self.assertIsNone(caught.exception.part)
        term = SKIP
        for _ in range(1000):
            term = ("then", ("if", P, SKIP, SKIP), term)
        with self.assertRaises(TooMany) as caught:
            machine_of_function(made_function(2, {}, (("p", "num"),), term, (("num",), "do")))
        self.assertEqual(caught.exception.most, 2000)
        self.assertFalse(takes(machine_of_function(Function(2, {}, (), SKIP)), []))


if __name__ == "__main__":
    unittest.main()
