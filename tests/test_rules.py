"""Point 50: rules, and which of them are right."""

import unittest

from meanings import random_piece
from playsalike.arounds import ended_around
from playsalike.errors import BadPiece, BadRule, TooMany
from playsalike.partings import parting
from playsalike.pieces import Piece, function_of
from playsalike.plays import plays_up_to
from playsalike.playwrights import around_of
from playsalike.rules import Rule, is_right
from samples import BOX, DO, NUM, ODD_VALUES, SKIP, name, number, some, too_great

X, Y, B, GO = name("x"), name("y"), name("b"), name("go")
HOLES = {"x": NUM, "y": NUM}


def rule(left, right, holes=None, size=2):
    names = HOLES if holes is None else holes
    return Rule(Piece(size, names, left), Piece(size, names, right))


class Rules(unittest.TestCase):
    def test_attributes_and_equality(self):
        left, right = Piece(2, HOLES, ("sum", X, Y)), Piece(2, HOLES, ("less", X, Y))
        told = Rule(left=left, right=right)
        self.assertEqual((told.left, told.right), (left, right))
        self.assertEqual(told, rule(("sum", X, Y), ("less", X, Y)))
        for other in (Rule(right, left), Rule(left, left), rule(("sum", Y, X), ("less", X, Y)), (left, right), None,
                      left):
            self.assertFalse(told == other)

    def test_right_ones(self):
        for told in (rule(("sum", X, number(0)), X), rule(("sum", X, Y), ("less", X, Y)), rule(("not", ("not", X)), X),
                     rule(("sum", X, ("sum", X, Y)), ("less", X, ("sum", X, Y))), rule(("if", number(1), X, Y), X),
                     rule(("then", SKIP, X), X), rule(("then", ("never", "do"), X), ("never", "num")),
                     rule(("while", number(1), GO), ("never", "do"), {"go": DO}),
                     rule(("while", X, GO), ("if", X, ("then", GO, ("while", X, GO)), SKIP), {"go": DO, "x": NUM}),
                     rule(("set", B, ("get", B)), ("set", B, ("get", B)), {"b": BOX}),
                     rule(("new", "v", 1, ("then", ("set", name("v"), X), ("get", name("v")))), X),
                     rule(("claim", number(1)), SKIP), rule(("claim", X), ("if", X, SKIP, ("claim", number(0)))),
                     rule(("get", ("made", X, "n", GO)), X, {"x": NUM, "go": DO}), rule(SKIP, SKIP, {})):
            self.assertIs(is_right(told), True)

    def test_others(self):
        for told in (rule(("sum", X, Y), X), rule(("sum", X, Y), ("sum", Y, X)), rule(("sum", X, X), number(0)),
                     rule(("same", X, X), number(1)), rule(("not", ("not", X)), X, size=3), rule(("if", X, Y, Y), Y),
                     rule(("then", X and GO, Y), Y, {"go": DO, "y": NUM}), rule(("while", X, SKIP), SKIP),
                     rule(("set", B, ("get", B)), SKIP, {"b": BOX}), rule(("get", B), ("get", B), {"b": BOX, "x": NUM}),
                     rule(("claim", X), ("if", X, SKIP, ("never", "do"))), rule(("claim", number(0)), ("never", "do"))):
            self.assertIs(is_right(told), told.left == told.right)

    def test_against_lists_of_plays(self):
        rng = some(500)
        seen = {True: 0, False: 0}
        for _ in range(400):
            holes = {word: rng.choice((NUM, DO, BOX)) for word in rng.sample("xyz", rng.randint(1, 2))}
            size, kind = rng.choice((2, 2, 3)), rng.choice(("num", "do"))
            left, right = (random_piece(rng, 3, names=holes, size=size, kind=kind, nodes=1) for _ in range(2))
            try:
                told = Rule(left, right)
            except BadRule:
                continue
            try:
                alike = plays_up_to(left, 14) == plays_up_to(right, 14)
            except TooMany:
                continue
            self.assertEqual(is_right(rule=told), alike)
            seen[alike] += 1
            play = parting(left, right)
            if play is not None:
                around = around_of(left, play[0])
                ended = [ended_around(one, around, 10 ** 5)[0] for one in (left, right)]
                self.assertNotEqual(ended[0], ended[1])
        self.assertGreater(min(seen.values()), 40)

    def test_errors_in_their_sequence(self):
        good = Piece(2, HOLES, X)
        for thing in ODD_VALUES + [function_of(good)]:
            for pair in ((thing, good), (good, thing), (thing, thing), (thing, Piece(3, {}, SKIP))):
                with self.assertRaises(BadPiece) as caught:
                    Rule(*pair)
                self.assertIsNone(caught.exception.part)
        unary = {"f": (("num",), "num")}
        cases = [("size", good, Piece(3, {}, SKIP)), ("size", Piece(3, unary, X and number(0)), good),
                 ("names", good, Piece(2, {"x": NUM}, SKIP)), ("names", good, Piece(2, {"x": NUM, "y": DO}, SKIP)),
                 ("names", Piece(2, unary, number(0)), Piece(2, unary, SKIP)),
                 ("names", Piece(2, {"go": (("do",), "do")}, SKIP), Piece(2, {"go": (("do",), "do")}, SKIP)),
                 ("sort", good, Piece(2, HOLES, SKIP)), ("sort", Piece(2, HOLES, SKIP), Piece(2, HOLES, Y)),
                 ("holes", good, Piece(2, HOLES, Y)), ("holes", Piece(2, HOLES, number(0)), good),
                 ("holes", Piece(2, {"b": BOX}, ("new", "b", 0, ("get", B))), Piece(2, {"b": BOX}, ("get", B)))]
        for part, left, right in cases:
            with self.subTest(part=part, left=left.term):
                with self.assertRaises(BadRule) as caught:
                    Rule(left, right)
                self.assertEqual(caught.exception.part, part)
        Rule(Piece(2, {"b": BOX}, ("get", B)), Piece(2, {"b": BOX}, ("new", "b", 0, ("get", B))))

    def test_no_rules(self):
        for thing in ODD_VALUES + [Piece(2, {}, SKIP)]:
            with self.assertRaises(BadRule) as caught:
                is_right(thing)
            self.assertIsNone(caught.exception.part)

    def test_too_many_states(self):
        great = too_great({"x": NUM})
        with self.assertRaises(TooMany) as caught:
            is_right(Rule(great, Piece(2, {"x": NUM}, SKIP)))
        self.assertEqual(caught.exception.most, 2000)


if __name__ == "__main__":
    unittest.main()
