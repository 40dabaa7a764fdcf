"""Point 68: all small functions for a name, told apart by whether the piece is safe; the example by hand of part 6."""

import unittest

from meanings import random_piece
from playsalike.claims import is_safe, least_break
from playsalike.errors import BadNumber, BadPiece, TooMany
from playsalike.pieces import Function, Piece, function_of, put_in
from playsalike.putclaims import always_breaks, safe_with
from playsalike.safefunctions import safe_functions
from playsalike.smallpieces import all_terms
from samples import BOX, DO, NUM, ODD_VALUES, SKIP, every_place, name, number, some
from termparts import changed, sort_in

X = name("x")
UNARY = (("num",), "num")


def turned(function, at):
    """The function with the part at this place turned to never, None if it is a box."""
    names = {word: ((), sort) for word, sort in function.params}
    part, inner = function.term, dict(names)
    left = list(at)
    while left:
        step = left.pop(0)
        if part[0] == "name":
            part = part[2][left.pop(0)]
            continue
        if part[0] == "new":
            inner[part[1]] = BOX
        if part[0] == "made" and step == 3:
            inner[part[2]] = NUM
        part = part[step]
    sort = sort_in(inner, part)
    if sort == "box":
        return None
    return Function(function.size, {}, function.params, changed(function.term, at, lambda _: ("never", sort)))


class SafeFunctions(unittest.TestCase):
    def test_by_hand(self):
        one = Piece(2, {"x": NUM}, ("claim", X))
        safe, others = safe_functions(one, "x", 1)
        self.assertEqual([function.term for function in safe], [("never", "num"), number(1)])
        self.assertEqual([function.term for function in others], [number(0)])
        f = Piece(2, {"f": UNARY}, ("claim", name("f", number(1))))
        safe, others = safe_functions(piece=f, word="f", nodes=2)
        self.assertEqual(safe[:3], [Function(2, {}, (("a", "num"),), term) for term in (name("a"), ("never", "num"),
                                                                                        number(1))])
        self.assertIn(Function(2, {}, (("a", "num"),), ("not", name("a"))), others)
        self.assertIn(Function(2, {}, (("a", "num"),), ("new", "b", 0, name("a"))), safe)
        self.assertEqual(safe_functions(Piece(2, {"x": NUM}, SKIP), "x", 1)[1], [])
        self.assertEqual(safe_functions(Piece(2, {"go": DO}, ("claim", number(0))), "go", 2)[0], [])

    def test_each_is_told_as_safe_with_tells(self):
        rng = some(680)
        sorts = [NUM, DO, UNARY, (("do",), "do"), (("box",), "num"), (("num", "box"), "do")]
        seen = {"safe": 0, "others": 0}
        for turn in range(24):
            sort = sorts[turn % len(sorts)]
            one = random_piece(rng, 4, names={"f": sort, "x": NUM, "b": BOX}, size=2, nodes=5)
            nodes = 2 + (turn % 2 if not sort[0] else 0)
            params = tuple(zip("abc", sort[0]))
            try:
                safe, others = safe_functions(one, "f", nodes)
            except TooMany as error:
                self.assertIn(error.most, (60, 12))
                continue
            terms = all_terms(2, {word: ((), plain) for word, plain in params}, sort[1], nodes)
            every = [Function(2, {}, params, term) for term in terms]
            self.assertEqual(safe, [function for function in every if is_safe(put_in(one, "f", function))])
            self.assertEqual(others, [function for function in every if not safe_with(one, "f", function)])
            if always_breaks(one, "f"):
                self.assertEqual(safe, [])
            seen["safe"] += len(safe)
            seen["others"] += len(others)
            for function in rng.sample(safe, min(10, len(safe))):
                for at in every_place(function.term):
                    less = turned(function, at)
                    if less is not None and less in every:
                        self.assertIn(less, safe)
        self.assertGreater(min(seen.values()), 50)

    def test_words_of_names_and_parameters(self):
        one = Piece(2, {"a": NUM, "f": (("num", "num"), "num")}, ("claim", name("f", name("a"), number(1))))
        safe, others = safe_functions(one, "f", 1)
        self.assertEqual([function.term for function in safe], [name("b"), ("never", "num"), number(1)])
        self.assertEqual([function.term for function in others], [name("a"), number(0)])

    def test_too_many(self):
        one = Piece(4, {"f": (("num", "num", "num"), "num")}, ("claim", name("f", number(0), number(0), number(0))))
        with self.assertRaises(TooMany) as caught:
            safe_functions(one, "f", 4)
        self.assertEqual(caught.exception.most, 3000)
        term = X
        for _ in range(4):
            term = ("sum", term, term)
        with self.assertRaises(TooMany) as caught:
            safe_functions(Piece(2, {"x": NUM}, ("claim", ("sum", term, X))), "x", 4)
        self.assertEqual(caught.exception.most, 60)
        deep = X
        for _ in range(11):
            deep = ("not", deep)
        with self.assertRaises(TooMany) as caught:
            safe_functions(Piece(2, {"x": NUM}, deep), "x", 2)
        self.assertEqual(caught.exception.most, 12)

    def test_errors_in_their_sequence(self):
        one = Piece(2, {"x": NUM, "v": BOX, "f": UNARY}, X)
        for thing in ODD_VALUES + [function_of(one)]:
            with self.assertRaises(BadPiece) as caught:
                safe_functions(thing, None, None)
            self.assertIsNone(caught.exception.part)
        for word in (None, "v", "y", "", 1, ["x"], ("x",), True):
            with self.assertRaises(BadPiece) as caught:
                safe_functions(one, word, None)
            self.assertEqual(caught.exception.part, "word")
        for nodes in (None, 0, 5, -1, True, 1.0, "1"):
            with self.assertRaises(BadNumber) as caught:
                safe_functions(one, "f", nodes)
            self.assertEqual(caught.exception.part, "nodes")


class ExampleByHand(unittest.TestCase):
    def test_it(self):
        names = {"x": NUM}
        one = Piece(2, names, ("claim", ("same", X, X)))
        self.assertFalse(is_safe(one))
        self.assertEqual(least_break(one), (("ask",), ("call", "x"), ("num", "x", 0), ("call", "x"), ("num", "x", 1),
                                            ("break",)))
        self.assertTrue(safe_with(one, "x", Function(2, {}, (), number(1))))
        b = name("b")
        kept = Piece(2, names, ("new", "b", 0, ("then", ("set", b, X), ("claim", ("same", ("get", b), ("get", b))))))
        self.assertIsNone(least_break(kept))
        self.assertEqual(safe_functions(one, "x", 1)[1], [])


if __name__ == "__main__":
    unittest.main()
