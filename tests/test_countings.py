"""Point 45: how many plays of a length there can be, and which ones."""

import unittest

from meanings import random_names
from playsalike.countings import all_plays, count_plays
from playsalike.errors import BadNumber, BadPiece, TooMany
from playsalike.heardmoves import heard_moves, told_moves
from playsalike.letters import in_order
from playsalike.moves import moves_of
from playsalike.pieces import Function, Piece
from playsalike.playing import is_begun, is_play
from samples import BOX, DO, NUM, ODD_VALUES, SKIP, number, some

ASK, BREAK = ("ask",), ("break",)
GO = Piece(2, {"go": DO}, number(0))


def by_trying(piece, length):
    """All rows of just so many moves that are plays: rows are made longer as long as they are begun ones."""
    turns = (told_moves(piece), heard_moves(piece))
    begun = [[ASK]]
    for at in range(1, length):
        begun = [row + [move] for row in begun for move in turns[(at + 1) % 2] if is_begun(piece, row + [move])]
    order = {move: at for at, move in enumerate(moves_of(piece))}
    return sorted([row for row in begun if is_play(piece, row)], key=lambda row: [order[move] for move in row])


class Countings(unittest.TestCase):
    def test_by_hand(self):
        piece = Piece(2, {}, number(0))
        self.assertEqual(count_plays(piece, 2), (2, 1))
        self.assertEqual(all_plays(piece, 2), [[ASK, BREAK], [ASK, ("num", 0)], [ASK, ("num", 1)]])
        self.assertEqual(count_plays(GO, 4), (2, 1))
        self.assertEqual(count_plays(GO, 3), (0, 0))
        self.assertEqual(all_plays(GO, 3), [])
        self.assertEqual(all_plays(GO, 4), [[ASK, ("call", "go"), ("did", "go"), told]
                                            for told in (BREAK, ("num", 0), ("num", 1))])

    def test_no_names(self):
        for size in (2, 3, 4):
            for length in range(61):
                self.assertEqual(count_plays(Piece(size, {}, number(0)), length), (size, 1) if length == 2 else (0, 0))
                self.assertEqual(count_plays(Piece(size, {}, SKIP), length), (1, 1) if length == 2 else (0, 0))

    def test_short_and_odd_lengths(self):
        for piece in (GO, Piece(4, {"f": (("box", "do", "num"), "num"), "v": BOX}, SKIP)):
            for length in [0, 1] + list(range(3, 61, 2)):
                self.assertEqual(count_plays(piece=piece, length=length), (0, 0))
                self.assertEqual(all_plays(piece=piece, length=length), [])

    def test_all_sorts_of_arguments(self):
        rng = some(45)
        sorts = [((), "num"), ((), "do"), BOX, (("num",), "num"), (("do",), "num"), (("box",), "num"), (("num",), "do"),
                 (("do",), "do"), (("box",), "do"), (("num", "num"), "do"), (("box", "do"), "num"),
                 (("num", "do", "box"), "do"), (("box", "box"), "num")]
        tried = 0
        for sort in sorts * 3:
            names = {**random_names(rng, 1, sorts), "z": sort}
            piece = Piece(rng.choice((2, 3, 4)), names, rng.choice((number(0), SKIP)))
            for length in range(2, 12, 2):
                unbroken, broken = count_plays(piece, length)
                if unbroken + broken > 2000:
                    with self.assertRaises(TooMany) as caught:
                        all_plays(piece, length)
                    self.assertEqual(caught.exception.most, 2000)
                    break
                if unbroken + broken > 300:
                    self.assertEqual(len(all_plays(piece, length)), unbroken + broken)
                    break
                wanted = by_trying(piece, length)
                self.assertEqual(all_plays(piece, length), wanted)
                self.assertEqual(sum(row[-1] == BREAK for row in wanted), broken)
                self.assertEqual(len(wanted), unbroken + broken)
                tried += 1
        self.assertGreater(tried, 60)

    def test_long_rows(self):
        # Behind ask each pair of moves calls go and hears that it did: one row of each even length.
        self.assertEqual(count_plays(GO, 60), (2, 1))
        self.assertEqual(all_plays(GO, 60)[0], [ASK] + [("call", "go"), ("did", "go")] * 29 + [BREAK])
        self.assertEqual(count_plays(Piece(3, {"x": NUM}, SKIP), 60), (3 ** 29, 3 ** 29))
        self.assertEqual(count_plays(Piece(4, {"v": BOX}, number(0)), 60), (4 * 8 ** 29, 8 ** 29))

    def test_deep_rows_are_counted_as_a_second_way_counts(self):
        # c: questions waiting for go(do) are opened and closed; by a table of how many wait.
        piece = Piece(2, {"go": (("do",), "do")}, SKIP)
        ways = {(1, "piece"): 1}
        for length in range(2, 61):
            further = {}
            for (waits, turn), many in ways.items():
                if turn == "piece":       # odd numbers wait: an ask is the last one
                    further[waits + 1, "around"] = further.get((waits + 1, "around"), 0) + many
                    if waits > 1:
                        further[waits - 1, "around"] = further.get((waits - 1, "around"), 0) + many
                else:                     # a call is the last one
                    for goal in (waits + 1, waits - 1):
                        further[goal, "piece"] = further.get((goal, "piece"), 0) + many
            unbroken = ways.get((1, "piece"), 0)
            broken = sum(many for (waits, turn), many in ways.items() if turn == "piece")
            self.assertEqual(count_plays(piece, length), (unbroken, broken))
            ways = further

    def test_as_many_as_are_let(self):
        piece = Piece(2, {"x": NUM}, SKIP)
        self.assertEqual(count_plays(piece, 20), (512, 512))
        self.assertEqual(len(all_plays(piece, 20)), 1024)
        with self.assertRaises(TooMany) as caught:
            all_plays(piece, 22)
        self.assertEqual(caught.exception.most, 2000)
        just = Piece(4, {"v": BOX, "w": BOX, "x": NUM}, number(0))
        self.assertEqual(count_plays(just, 6), (1600, 400))
        self.assertEqual(len(all_plays(just, 6)), 2000)
        rows = all_plays(Piece(4, {"v": BOX}, number(0)), 6)
        self.assertEqual(len(rows), 5 * 64)
        every = moves_of(Piece(4, {"v": BOX}, number(0)))
        self.assertEqual(rows, sorted(rows, key=lambda row: [every.index(move) for move in row]))
        self.assertEqual(in_order(every), every)

    def test_any_piece_of_the_kind(self):
        for term in (("never", "num"), ("claim", number(0))):
            piece = Piece(2, {"go": DO}, ("then", ("claim", number(0)), number(1)) if term[0] == "claim" else term)
            self.assertEqual(all_plays(piece, 4), all_plays(GO, 4))

    def test_errors(self):
        for thing in ODD_VALUES + [Function(2, {}, (), SKIP)]:
            for call in (count_plays, all_plays):
                with self.assertRaises(BadPiece) as caught:
                    call(thing, -1)
                self.assertIsNone(caught.exception.part)
        for length in (-1, 61, True, None, "4", 2.0):
            for call in (count_plays, all_plays):
                with self.assertRaises(BadNumber) as caught:
                    call(GO, length)
                self.assertEqual(caught.exception.part, "length")


if __name__ == "__main__":
    unittest.main()
