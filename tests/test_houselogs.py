"""Point 76: logs of houses, cut anywhere."""

import unittest

from meanings import random_piece
from playsalike.driving import driven
from playsalike.errors import BadBytes, BadHouse, BadPiece
from playsalike.heardmoves import told_moves
from playsalike.houselogs import log_of, read_log
from playsalike.houses import House
from playsalike.pieces import Function, Piece
from samples import NUM, ODD_VALUES, SKIP, name, number, some

ASK = ("ask",)
EXAMPLE = Piece(2, {"f": (("num",), "num")}, ("sum", name("f", number(1)), number(1)))


def example():
    house = House(EXAMPLE)
    for move in (ASK, ("ask", "f", 0), ("num", "f", 1)):
        house.hear(move)
    return house


class HouseLogs(unittest.TestCase):
    def told(self, piece, thing):
        house, good, why = read_log(piece, thing)
        self.assertIs(type(house), House)
        return list(house.moves), good, why

    def test_by_hand(self):
        house = example()
        self.assertEqual(told_moves(EXAMPLE), [("break",), ("call", "f"), ("num", 0), ("num", 1), ("num", "f", 0, 0),
                                               ("num", "f", 0, 1)])
        self.assertEqual(log_of(house=house), (0, 1, 0, 5, 2, 2))
        found, good, why = read_log(piece=EXAMPLE, thing=[0, 1, 0, 5, 2, 2])
        self.assertEqual((found.moves, found.word, found.steps(), good, why), (house.moves, "ended", 4, 6, "whole"))
        self.assertEqual(log_of(House(EXAMPLE)), ())
        self.assertEqual(self.told(EXAMPLE, ()), ([], 0, "whole"))

    def test_cut_at_every_byte(self):
        moves = list(example().moves)
        log = log_of(example())
        for cut in range(7):
            self.assertEqual(self.told(EXAMPLE, log[:cut]),
                             (moves[:cut // 2 * 2], cut // 2 * 2, "torn" if cut % 2 else "whole"))

    def test_torn_and_strange(self):
        first = [ASK, ("call", "f")]
        for thing, wanted in (
                ([1], ([], 0, "strange")), ([0], ([], 0, "torn")), ([255], ([], 0, "strange")),
                ([0, 2], ([], 0, "strange")), ([0, 255], ([], 0, "strange")), ([1, 1], ([], 0, "strange")),
                ([0, 1, 2], (first, 2, "torn")), ([0, 1, 3], (first, 2, "strange")),
                ([0, 1, 2, 3], (first, 2, "strange")), ([0, 1, 2, 2], (first + [("num", "f", 1), ("num", 0)], 4, "whole")),
                ([0, 1, 2, 2, 0], (first + [("num", "f", 1), ("num", 0)], 4, "strange")),
                ([0, 1, 2, 2, 0, 0], (first + [("num", "f", 1), ("num", 0)], 4, "strange")),
                ([0, 1, 0, 4, 0], (first, 2, "strange")), ([0, 2, 0], ([], 0, "strange"))):
            self.assertEqual(self.told(EXAMPLE, thing), wanted)
            self.assertEqual(self.told(EXAMPLE, tuple(thing)), wanted)

    def test_lost(self):
        piece = Piece(2, {"x": NUM}, ("if", name("x"), ("never", "do"), SKIP))
        house = driven(piece, [1])
        self.assertEqual(house.word, "lost")
        self.assertEqual(log_of(house), (0, 2, 1, 255))
        self.assertEqual(self.told(piece, [0, 2, 1, 255]), ([ASK, ("call", "x"), ("num", "x", 1)], 4, "whole"))
        self.assertEqual(self.told(piece, [0, 2, 0, 255]), ([ASK, ("call", "x")], 2, "strange"))
        self.assertEqual(self.told(piece, [0, 2, 1, 2]), ([ASK, ("call", "x")], 2, "strange"))
        self.assertEqual(self.told(piece, [0, 2, 1, 255, 0]), ([ASK, ("call", "x"), ("num", "x", 1)], 4, "strange"))

    def test_by_chance(self):
        rng = some(76)
        for _ in range(200):
            piece = random_piece(rng, 6)
            house = driven(piece, [rng.randrange(9) for _ in range(rng.randint(0, 8))])
            log = log_of(house)
            self.assertIs(type(log), tuple)
            self.assertEqual(len(log), (len(house.moves) + 1) // 2 * 2)
            before = house.moves
            for cut in range(len(log) + 1):
                moves, good, why = self.told(piece, log[:cut])
                self.assertEqual((good, why), (cut // 2 * 2, "torn" if cut % 2 else "whole"))
                self.assertEqual(tuple(moves), house.moves[:good])
            self.assertEqual(house.moves, before)
            for _ in range(5):
                bad = list(log)
                at = rng.randrange(len(bad))
                bad[at] = rng.choice((0, 1, 2, 3, 4, 5, 7, 254, 255))
                moves, good, why = self.told(piece, bad)
                if tuple(bad) != log:
                    self.assertGreaterEqual(good, at // 2 * 2)
                    self.assertEqual(log_of(read_log(piece, bad)[0]), tuple(bad[:good]))
                    if why == "whole":
                        self.assertEqual(good, len(bad))

    def test_the_house_goes_on(self):
        house = read_log(EXAMPLE, [0, 1, 0])[0]
        self.assertEqual(house.hear(("num", "f", 0)), ("num", 1))

    def test_errors(self):
        for thing in ODD_VALUES + [EXAMPLE]:
            with self.assertRaises(BadHouse):
                log_of(thing)
            if thing is not EXAMPLE:
                with self.assertRaises(BadPiece) as caught:
                    read_log(thing, None)
                self.assertIsNone(caught.exception.part)
        for thing in (None, "", b"", b"\x00", 3, [256], [-1], [True], [0, 1, None], [0.0], ["0"], {0: 1}, [[0]], {}, range(2)):
            with self.assertRaises(BadBytes):
                read_log(EXAMPLE, thing)
        with self.assertRaises(BadPiece):
            read_log(Function(2, {}, (), SKIP), [])


if __name__ == "__main__":
    unittest.main()
