"""Point 78: pieces read apart by the same digits."""

import unittest

from meanings import random_names, random_piece
from playsalike.alike import same
from playsalike.driving import driven
from playsalike.errors import BadDigits, BadPiece, TooMany
from playsalike.houselogs import log_of
from playsalike.houses import House
from playsalike.pieces import Piece, function_of, made_piece, put
from playsalike.readings import digits_apart, read_apart
from samples import BOX, DO, NUM, ODD_VALUES, SKIP, name, number, some, too_great

X, GO = name("x"), name("go")
NAMES = {"x": NUM, "v": BOX, "go": DO}


def piece(term, names=None, size=2):
    return Piece(size, NAMES if names is None else names, term)


def by_houses(one, other, digits):
    """A second way: both driven by all beginnings of the digits."""
    for end in range(len(digits) + 1):
        moves = [driven(which, digits[:end]).moves for which in (one, other)]
        if moves[0] != moves[1]:
            beat = end + 1
            return (beat,) + tuple(told[2 * beat - 1] if len(told) == 2 * beat else None for told in moves)
    return None


class ReadApart(unittest.TestCase):
    def test_by_hand(self):
        one, other = piece(("sum", X, number(1))), piece(("not", ("not", X)))
        self.assertIsNone(read_apart(one, one, [0, 1]))
        self.assertIsNone(read_apart(one, other, []))
        self.assertEqual(read_apart(one, other, [0]), (2, ("num", 1), ("num", 0)))
        self.assertEqual(read_apart(one, other, [5, 7, 9]), (2, ("num", 0), ("num", 1)))
        self.assertEqual(read_apart(X and piece(X), piece(number(0)), []), (1, ("call", "x"), ("num", 0)))
        self.assertEqual(read_apart(piece=piece(GO), other=piece(("claim", number(0))), digits=(1,)),
                         (1, ("call", "go"), ("break",)))
        self.assertIsNone(read_apart(one, piece(("not", X)), [0, 0, 0]))

    def test_lost(self):
        never, wait = piece(("never", "num")), piece(("then", ("while", X, ("never", "do")), X))
        self.assertIsNone(read_apart(never, never, [1, 2]))
        self.assertEqual(read_apart(never, wait, [1, 2]), (1, None, ("call", "x")))
        self.assertIsNone(read_apart(wait, wait, [1, 2]))
        self.assertEqual(read_apart(wait, piece(("then", ("while", X, SKIP), X)), [1, 2]), (2, None, ("call", "x")))
        self.assertIsNone(read_apart(wait, piece(("if", X, ("never", "num"), X)), [3]))

    def test_by_chance(self):
        rng = some(780)
        seen = {True: 0, False: 0}
        for _ in range(300):
            names = random_names(rng, 2)
            one, other = (random_piece(rng, 4, names=names, size=2, kind="do", nodes=2) for _ in range(2))
            digits = [rng.randint(0, 9) for _ in range(rng.randint(0, 6))]
            found = read_apart(one, other, digits)
            self.assertEqual(found, by_houses(one, other, digits))
            seen[found is None] += 1
        self.assertGreater(min(seen.values()), 50)

    def test_example_by_hand(self):
        one = Piece(2, {"f": (("num",), "num")}, ("sum", name("f", number(1)), number(1)))
        house = House(one)
        self.assertEqual(house.hear(("ask",)), ("call", "f"))
        self.assertEqual(house.spots(), [(1,)])
        self.assertEqual(house.hear(("ask", "f", 0)), ("num", "f", 0, 1))
        self.assertEqual(house.hear(("num", "f", 1)), ("num", 0))
        self.assertEqual((house.word, house.steps(), log_of(house)), ("ended", 4, (0, 1, 0, 5, 2, 2)))
        other = Piece(2, one.names, name("f", number(0)))
        self.assertEqual(read_apart(one, other, [0, 2]), (2, ("num", "f", 0, 1), ("num", "f", 0, 0)))
        self.assertEqual(read_apart(one, other, [2]), (2, ("num", 0), ("num", 1)))


class DigitsApart(unittest.TestCase):
    def check(self, one, other):
        digits = digits_apart(one, other)
        if same(one, other):
            self.assertIsNone(digits)
            return digits
        self.assertIsNotNone(read_apart(one, other, digits))
        words = [driven(which, digits).word for which in (one, other)]
        self.assertTrue("ended" in words or "broken" in words)
        return digits

    def test_by_hand(self):
        self.assertIsNone(self.check(piece(("sum", X, number(0))), piece(X)))
        self.assertEqual(self.check(piece(X), piece(number(0))), [])
        self.assertEqual(self.check(piece(number(0)), piece(X)), [])
        self.assertEqual(self.check(piece(("not", X)), piece(X)), [0])
        self.assertEqual(self.check(piece(X), piece(("if", X, number(1), ("never", "num")))), [0])
        self.assertEqual(self.check(piece(("if", X, ("never", "num"), number(1))),
                                    piece(("if", X, number(1), ("never", "num")))), [0])
        self.assertIsNone(self.check(piece(("never", "num")), piece(("then", GO, ("never", "num")))))
        self.assertIsNone(self.check(piece(("while", X, GO)), piece(("if", X, ("then", GO, ("while", X, GO)), SKIP))))
        self.assertEqual(self.check(piece(("then", GO, ("claim", X))), piece(GO)), [0])

    def test_by_chance(self):
        rng = some(781)
        seen = {True: 0, False: 0}
        for _ in range(250):
            names = random_names(rng, 3)
            size, kind = rng.choice((2, 3)), rng.choice(("num", "do"))
            one, other = (random_piece(rng, 4, names=names, size=size, kind=kind, nodes=2) for _ in range(2))
            if rng.random() < 0.3:
                other = Piece(size, names, ("then", ("while", number(0), SKIP), one.term))
            seen[self.check(one, other) is None] += 1
        self.assertGreater(min(seen.values()), 60)

    def looks(self, many, last):
        term = last
        for _ in range(many):
            term = ("if", X, ("never", "num"), term)
        return made_piece(2, {"x": NUM}, term, "num")

    def test_as_few_digits_as_can_be(self):
        for many, last in ((399, number(0)), (400, number(0)), (120, number(0))):
            one, other = self.looks(many, number(1)), self.looks(many, last)
            digits = self.check(one, other)
            self.assertEqual(digits, [0] * many)
        for many in (401, 600):
            one, other = self.looks(many, number(1)), self.looks(many, number(0))
            with self.assertRaises(TooMany) as caught:
                digits_apart(one, other)
            self.assertEqual(caught.exception.most, 400)
            self.assertIsNone(digits_apart(one, put(one, "x", function_of(Piece(2, {"x": NUM}, X)))))


class Errors(unittest.TestCase):
    def test_errors_in_their_sequence(self):
        good = piece(X)
        calls = (lambda one, other: read_apart(one, other, None), digits_apart)
        for call in calls:
            for thing in ODD_VALUES + [function_of(good)]:
                for pair in ((thing, good), (good, thing), (thing, Piece(3, {}, SKIP))):
                    with self.assertRaises(BadPiece) as caught:
                        call(*pair)
                    self.assertIsNone(caught.exception.part)
            for other in (piece(X, size=3), piece(GO), piece(X, {"x": NUM}), piece(X, {**NAMES, "v": NUM})):
                for pair in ((good, other), (other, good)):
                    with self.assertRaises(BadPiece) as caught:
                        call(*pair)
                    self.assertEqual(caught.exception.part, "names")
        for digits in (None, 0, "01", [-1], [True], [0] * 401, {}, [None], ["1"], [1.0]):
            with self.assertRaises(BadDigits):
                read_apart(good, good, digits)
        self.assertIsNone(read_apart(good, good, [0] * 400))
        great = too_great({"x": NUM})
        with self.assertRaises(TooMany) as caught:
            digits_apart(great, Piece(2, {"x": NUM}, SKIP))
        self.assertEqual(caught.exception.most, 2000)


if __name__ == "__main__":
    unittest.main()
