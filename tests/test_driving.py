"""Point 73: houses driven by digits, and all short plays of houses."""

import unittest

from meanings import plays_by_player, random_piece
from playsalike.driving import driven, house_plays
from playsalike.errors import BadDigits, BadNumber, BadPiece, TooMany
from playsalike.houses import House
from playsalike.pieces import Function, Piece, made_piece
from playsalike.plays import plays_up_to
from samples import DO, NUM, ODD_VALUES, SKIP, name, number, some

ASK = ("ask",)
X = name("x")
PIECE = Piece(2, {"f": (("num",), "num")}, ("sum", name("f", number(1)), number(1)))


def chained(term, many):
    if many == 1:
        return term
    return ("then", chained(term, many // 2), chained(term, many - many // 2))


def tried(hearings):
    """A deed of just so many hearings: of x (each one of four numbers) and of go."""
    if hearings < 4:
        return ("then", name("go"), tried(hearings - 1)) if hearings else SKIP
    each = [(hearings - 4 + n) // 4 for n in range(4)]
    term = tried(each[0])
    for n in (1, 2, 3):
        term = ("if", ("same", ("get", name("b")), number(n)), tried(each[n]), term)
    return ("new", "b", 0, ("then", ("set", name("b"), X), term))


class Driving(unittest.TestCase):
    def test_by_hand(self):
        self.assertEqual(driven(PIECE, []).moves, (ASK, ("call", "f")))
        self.assertEqual(driven(PIECE, [0, 2]).moves, (
            ASK, ("call", "f"), ("ask", "f", 0), ("num", "f", 0, 1), ("num", "f", 1), ("num", 0)))
        self.assertEqual(driven(piece=PIECE, digits=(3, 3001, 7, 7, 7)).moves, (
            ASK, ("call", "f"), ("ask", "f", 0), ("num", "f", 0, 1), ("num", "f", 0), ("num", 1)))
        self.assertEqual(driven(Piece(2, {}, ("never", "do")), [1, 2]).word, "lost")
        self.assertIs(type(driven(PIECE, [])), House)

    def test_digits_by_chance(self):
        rng = some(73)
        for _ in range(200):
            piece = random_piece(rng, 6)
            digits = [rng.choice((0, 1, 2, 3, 7, 10 ** 9)) for _ in range(rng.randint(0, 12))]
            house = House(piece)
            house.hear(ASK)
            for digit in digits:
                if house.word == "waits":
                    house.hear(house.can_hear()[digit % len(house.can_hear())])
            found = driven(piece, digits)
            self.assertEqual((found.moves, found.word, found.steps()), (house.moves, house.word, house.steps()))
            self.assertEqual(driven(piece, tuple(digits)).moves, house.moves)

    def test_bad_digits(self):
        for digits in ([-1], [0, True], [None], [1.0], ["1"], "", None, 3, {0: 1}, [0] * 401, (0,) * 401, [[0]], range(3)):
            with self.assertRaises(BadDigits):
                driven(PIECE, digits)
        self.assertEqual(len(driven(PIECE, [0] * 400).moves), 802)
        with self.assertRaises(BadDigits):
            driven(Piece(2, {}, SKIP), [0, -1])
        for thing in ODD_VALUES + [Function(2, {}, (), SKIP)]:
            for call in (lambda told: driven(told, None), lambda told: house_plays(told, None)):
                with self.assertRaises(BadPiece) as caught:
                    call(thing)
                self.assertIsNone(caught.exception.part)


class HousePlays(unittest.TestCase):
    def test_by_hand(self):
        self.assertEqual(house_plays(PIECE, 6), [
            [ASK, ("call", "f"), ("num", "f", 0), ("num", 1)], [ASK, ("call", "f"), ("num", "f", 1), ("num", 0)],
            [ASK, ("call", "f"), ("ask", "f", 0), ("num", "f", 0, 1), ("num", "f", 0), ("num", 1)],
            [ASK, ("call", "f"), ("ask", "f", 0), ("num", "f", 0, 1), ("num", "f", 1), ("num", 0)]])
        self.assertEqual(house_plays(PIECE, 5), house_plays(PIECE, 4))
        for most in (0, 1):
            self.assertEqual(house_plays(Piece(2, {}, SKIP), most), [])
        self.assertEqual(house_plays(piece=Piece(2, {}, SKIP), most=2), [[ASK, ("do",)]])
        self.assertEqual(house_plays(Piece(2, {}, ("never", "do")), 40), [])

    def test_against_the_machine(self):
        rng = some(74)
        for _ in range(200):
            piece = random_piece(rng, 6, most=2)
            most = rng.randint(0, 8)
            self.assertEqual(house_plays(piece, most), plays_up_to(piece, most))
            self.assertEqual({tuple(row) for row in house_plays(piece, most)}, plays_by_player(piece, most))

    def test_as_many_plays_as_are_let(self):
        looks = Piece(2, {"x": NUM}, chained(("if", X, SKIP, SKIP), 11))
        self.assertEqual(house_plays(looks, 23), [])
        with self.assertRaises(TooMany) as caught:
            house_plays(looks, 24)
        self.assertEqual(caught.exception.most, 2000)
        self.assertEqual(len(house_plays(Piece(2, {"x": NUM}, chained(("if", X, SKIP, SKIP), 10)), 40)), 1024)

    def test_just_as_many_plays_and_hearings_as_are_let(self):
        five = ("if", X, SKIP, ("if", X, SKIP, SKIP))
        two = ("if", ("same", X, number(2)), ("never", "do"), SKIP)
        term = ("then", ("then", ("then", five, five), ("then", five, two)), ("then", ("then", two, two), two))
        self.assertEqual(len(house_plays(Piece(3, {"x": NUM}, term), 40)), 2000)
        names = {"x": NUM, "go": DO}
        for hearings, is_let in ((19999, True), (20000, False)):
            piece = made_piece(4, names, ("then", tried(hearings), ("never", "do")), "do")
            if is_let:
                self.assertEqual(house_plays(piece, 40), [])
            else:
                with self.assertRaises(TooMany):
                    house_plays(piece, 40)

    def test_more_hearings_than_are_let(self):
        # One hearing, and then each time four times as many: 5461 up to 14 moves, 21845 up to 16.
        piece = Piece(4, {"x": NUM}, ("then", chained(("if", X, SKIP, SKIP), 7), ("never", "do")))
        self.assertEqual(house_plays(piece, 15), [])
        with self.assertRaises(TooMany) as caught:
            house_plays(piece, 16)
        self.assertEqual(caught.exception.most, 2000)

    def test_errors(self):
        for most in (-1, 41, True, None, "3", 2.0):
            with self.assertRaises(BadNumber) as caught:
                house_plays(PIECE, most)
            self.assertEqual(caught.exception.part, "most")
        self.assertEqual(house_plays(Piece(2, {"go": DO}, name("go")), 40), [[ASK, ("call", "go"), ("did", "go"), ("do",)]])


if __name__ == "__main__":
    unittest.main()
