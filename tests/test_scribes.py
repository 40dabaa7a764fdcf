"""Point 77: houses with a log on a disk, and what is found when they fall."""

import unittest

from meanings import random_piece
from playsalike.errors import BadBytes, BadLog, BadMove, BadNumber, BadPiece, BadScribe
from playsalike.heardmoves import told_moves
from playsalike.houselogs import log_of, read_log
from playsalike.houses import House
from playsalike.pieces import Piece, function_of
from playsalike.scribes import Scribe, fallen
from samples import NUM, ODD_VALUES, SKIP, name, number, some

ONE = Piece(2, {"f": (("num",), "num")}, ("sum", name("f", number(1)), number(1)))
LOG = (0, 1, 0, 5, 2, 2)


def all_told(house):
    return house.moves[1::2]


def heard_by_chance(rng, house, most):
    """Hears moves by chance, at most so many."""
    for _ in range(rng.randint(0, most)):
        if house.can_hear():
            house.hear(rng.choice(house.can_hear()))


class Scribes(unittest.TestCase):
    def test_by_hand(self):
        scribe = Scribe(ONE, [])
        self.assertEqual((scribe.piece, scribe.sure, scribe.late, scribe.house.word), (ONE, (), (), "new"))
        self.assertIsNone(scribe.hear(("ask",)))
        self.assertEqual((scribe.sure, scribe.late), ((), (0, 1)))
        self.assertIsNone(scribe.hear(move=("ask", "f", 0)))
        self.assertEqual((scribe.sure, scribe.late), ((), (0, 1, 0, 5)))
        self.assertEqual(scribe.tell(), (("call", "f"), ("num", "f", 0, 1)))
        self.assertEqual((scribe.sure, scribe.late), ((0, 1, 0, 5), ()))
        self.assertEqual(scribe.tell(), ())
        scribe.hear(("num", "f", 1))
        self.assertEqual((scribe.sure, scribe.late), (LOG[:4], LOG[4:]))
        self.assertEqual([tuple(fallen(scribe, kept)) for kept in range(3)], [LOG[:4], LOG[:5], LOG])
        self.assertEqual(scribe.tell(), (("num", 0),))
        self.assertEqual((scribe.sure, scribe.house.word), (LOG, "ended"))

    def test_taken_up_again(self):
        told = (("call", "f"), ("num", "f", 0, 1), ("num", 0))
        for end in range(7):
            scribe = Scribe(piece=ONE, thing=list(LOG[:end]))
            self.assertEqual(scribe.sure, LOG[:end])
            self.assertEqual(scribe.late, LOG[end:end + 1] if end % 2 else ())
            self.assertEqual(all_told(scribe.house), told[:(end + 1) // 2])
            self.assertEqual(scribe.tell(), told[:(end + 1) // 2])
            self.assertEqual(scribe.sure, LOG[:end + end % 2])
            self.assertEqual(scribe.tell(), ())

    def test_a_lost_house(self):
        one = Piece(2, {"x": NUM}, ("while", name("x"), ("never", "do")))
        scribe = Scribe(one, ())
        scribe.hear(("ask",))
        scribe.hear(("num", "x", 1))
        self.assertEqual((scribe.house.word, scribe.late[-1]), ("lost", 255))
        self.assertEqual(scribe.tell(), (("call", "x"),))
        self.assertEqual(Scribe(one, fallen(scribe, 0)).house.word, "lost")
        with self.assertRaises(BadMove):
            scribe.hear(("num", "x", 1))
        torn = Scribe(one, scribe.sure[:3])
        self.assertEqual((torn.house.word, torn.late), ("lost", (255,)))

    def test_strange_and_torn(self):
        for thing, good in (((1,), 0), ((0, 0), 0), ((0, 1, 3), 2), ((0, 1, 0, 4), 2), ((0, 1, 0, 5, 2, 3), 4),
                            (LOG + (0,), 6),
                            (LOG + (0, 0), 6), ((255,), 0), ((0, 255), 0), ((0, 1, 0, 5, 200), 4)):
            with self.assertRaises(BadLog) as caught:
                Scribe(ONE, thing)
            self.assertEqual(caught.exception.at, good)
        for place, told in ((0, 5), (1, 3), (2, 2)):
            scribe = Scribe(ONE, (0, 1, place))
            self.assertEqual((scribe.sure, scribe.late), ((0, 1, place), (told,)))

    def test_attributes_at_each_moment(self):
        rng = some(770)
        for _ in range(80):
            one = random_piece(rng, 5, nodes=3)
            scribe = Scribe(one, [])
            sure, late, waiting = (), (), ()
            for _ in range(12):
                moves = scribe.house.can_hear()
                if rng.random() < 0.4 or not moves:
                    self.assertEqual(scribe.tell(), waiting)
                    sure, late, waiting = sure + late, (), ()
                else:
                    move = rng.choice(moves)
                    twin = scribe.house.twin()
                    told = twin.hear(move)
                    scribe.hear(move)
                    late += (moves.index(move), 255 if told is None else told_moves(one).index(told))
                    waiting += () if told is None else (told,)
                self.assertEqual((scribe.sure, scribe.late), (sure, late))
                self.assertEqual(log_of(scribe.house), sure + late)

    def test_what_was_told_is_never_taken_back(self):
        rng = some(771)
        falls = 0
        for _ in range(80):
            one = random_piece(rng, 5, nodes=4)
            told, found = (), ()
            for _ in range(4):
                scribe = Scribe(one, found)
                self.assertEqual(told, all_told(scribe.house)[:len(told)])
                told = ()
                for _ in range(rng.randint(0, 5)):
                    if rng.random() < 0.4:
                        told += scribe.tell()
                    elif scribe.house.can_hear():
                        scribe.hear(rng.choice(scribe.house.can_hear()))
                for kept in range(len(scribe.late) + 1):
                    found = fallen(scribe, kept)
                    further = Scribe(one, found)
                    heard_by_chance(rng, further.house, 4)
                    self.assertEqual(told, all_told(further.house)[:len(told)])
                    falls += 1
                found = fallen(scribe, rng.randint(0, len(scribe.late)))
        self.assertGreater(falls, 500)

    def test_logs_cut_at_every_byte(self):
        rng = some(772)
        for _ in range(60):
            one = random_piece(rng, 5, nodes=4)
            house = House(one)
            heard_by_chance(rng, house, 8)
            log = log_of(house)
            for end in range(len(log) + 1):
                scribe = Scribe(one, log[:end])
                self.assertEqual(scribe.sure + scribe.late, log[:end + end % 2])
                self.assertEqual(read_log(one, scribe.sure + scribe.late)[2], "whole")
                self.assertEqual(scribe.house.moves[:end], house.moves[:len(scribe.house.moves)][:end])

    def test_errors(self):
        for thing in ODD_VALUES + [function_of(ONE)]:
            with self.assertRaises(BadPiece) as caught:
                Scribe(thing, None)
            self.assertIsNone(caught.exception.part)
        for thing in (None, 0, "ab", [256], [-1], [True], [None], {}, [(0,)], ("a",)):
            with self.assertRaises(BadBytes):
                Scribe(ONE, thing)
        scribe = Scribe(ONE, (0, 1))
        for move in ODD_VALUES + [("ask",), ("num", "f", 2), ("num", "f", True), ["ask", "f", 0], ("ask", "f", 1)]:
            with self.assertRaises(BadMove):
                scribe.hear(move)
        self.assertEqual((scribe.sure, scribe.late, len(scribe.house.moves)), ((0, 1), (), 2))
        scribe.hear(("ask", "f", 0))
        for kept in (-1, 3, None, True, "0", 1.0, (1,)):
            with self.assertRaises(BadNumber) as caught:
                fallen(scribe, kept)
            self.assertEqual(caught.exception.part, "kept")
        self.assertEqual(tuple(fallen(scribe=scribe, kept=2)), (0, 1, 0, 5))
        for thing in ODD_VALUES + [ONE, House(ONE)]:
            with self.assertRaises(BadScribe):
                fallen(thing, None)
        self.assertIsInstance(Scribe(Piece(2, {}, SKIP), []), Scribe)


if __name__ == "__main__":
    unittest.main()
