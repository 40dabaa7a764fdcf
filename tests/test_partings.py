"""Point 41: least plays that part pieces."""

import unittest

from meanings import random_names, random_piece
from playsalike.alike import less, same
from playsalike.errors import BadPiece, TooMany
from playsalike.pieces import Function, Piece
from playsalike.partings import beyond, parting
from playsalike.playing import is_play
from playsalike.plays import has_play, machine_of, plays_up_to
from samples import DO, NUM, ODD_VALUES, SKIP, name, number, some, too_great

ASK, BREAK = ("ask",), ("break",)
X, GO = name("x"), name("go")
NAMES = {"go": DO, "x": NUM}
CALL_X, CALL_GO = ("call", "x"), ("call", "go")


def piece(term, size=2, names=None):
    return Piece(size, names or NAMES, term)


def begun_as_broken(row, others):
    return row[-1] == BREAK and any(tuple(row[:end]) + (BREAK,) in others for end in range(len(row)))


class Partings(unittest.TestCase):
    def test_by_hand(self):
        self.assertIsNone(parting(piece(("sum", X, number(1))), piece(("not", X))))
        one, other = piece(X), piece(("not", X))
        self.assertEqual(parting(piece=one, other=other), ((ASK, CALL_X, ("num", "x", 0), ("num", 0)), 0))
        self.assertEqual(parting(other, one), ((ASK, CALL_X, ("num", "x", 0), ("num", 0)), 1))
        # of one length: the first one in the order of rows, whichever has it
        one, other = piece(("sum", X, number(1)), 3), piece(("less", X, number(1)), 3)
        self.assertEqual(parting(one, other), ((ASK, CALL_X, ("num", "x", 0), ("num", 1)), 0))
        self.assertEqual(parting(piece(number(0)), piece(X)), ((ASK, ("num", 0)), 0))
        self.assertEqual(parting(piece(X), piece(number(1))), ((ASK, ("num", 1)), 1))
        self.assertEqual(parting(piece(X), piece(("never", "num"))), ((ASK, CALL_X, ("num", "x", 0), ("num", 0)), 0))

    def test_broken_ones(self):
        false = ("claim", number(0))
        self.assertEqual(parting(piece(("then", GO, false)), piece(false)), ((ASK, BREAK), 1))
        self.assertEqual(parting(piece(("claim", X)), piece(("if", X, SKIP, SKIP))),
                         ((ASK, CALL_X, ("num", "x", 0), BREAK), 0))
        self.assertIsNone(beyond(piece(("then", GO, false)), piece(false)))
        self.assertEqual(beyond(piece=piece(false), other=piece(("then", GO, false))), (ASK, BREAK))
        one = piece(("if", X, ("then", GO, false), ("then", GO, false)))
        other = piece(("if", X, false, GO))
        # the play behind 1 is covered by a shorter one; the one behind 0 is not
        self.assertEqual(beyond(one, other), (ASK, CALL_X, ("num", "x", 0), CALL_GO, ("did", "go"), BREAK))
        self.assertEqual(beyond(other, one), (ASK, CALL_X, ("num", "x", 1), BREAK))
        one, other = piece(("then", GO, ("claim", X))), piece(("then", GO, false))
        self.assertEqual(beyond(one, other), (ASK, CALL_GO, ("did", "go"), CALL_X, ("num", "x", 1), ("do",)))
        self.assertEqual(beyond(other, one), (ASK, CALL_GO, ("did", "go"), BREAK))

    def test_beyond_both_ways(self):
        one, other = piece(("if", X, GO, SKIP)), piece(("if", X, SKIP, GO))
        self.assertEqual(beyond(one, other), (ASK, CALL_X, ("num", "x", 0), ("do",)))
        self.assertEqual(beyond(other, one), (ASK, CALL_X, ("num", "x", 1), ("do",)))
        partial = piece(("if", X, GO, ("never", "do")))
        self.assertIsNone(beyond(partial, one))
        self.assertEqual(beyond(one, partial), (ASK, CALL_X, ("num", "x", 0), ("do",)))
        self.assertEqual(parting(partial, one), ((ASK, CALL_X, ("num", "x", 0), ("do",)), 1))

    def test_by_chance_against_lists_of_plays(self):
        rng = some(41)
        seen = {}
        for _ in range(500):
            names = random_names(rng, 2)
            one, other = (random_piece(rng, 4, size=2, names=names, kind="do", nodes=3) for _ in range(2))
            most = len(machine_of(one).ways) + len(machine_of(other).ways)
            found, further = parting(one, other), beyond(one, other)
            self.assertEqual(found is None, same(one, other))
            self.assertEqual(further is None, less(one, other))
            if found is not None:
                self.check_facts(one, other, found, most)
            if most > 12:
                continue
            try:
                rows, others = plays_up_to(one, most), plays_up_to(other, most)
            except TooMany:
                continue
            told = {tuple(row) for row in others}
            mine = {tuple(row) for row in rows}
            every = [row for row in sorted(rows + others, key=len) if (tuple(row) in told) != (tuple(row) in mine)]
            if found is not None:
                self.assertEqual(len(every[0]), len(found[0]))
                self.assertIn(list(found[0]), every)
            more = [tuple(row) for row in rows if tuple(row) not in told and not begun_as_broken(row, told)]
            self.assertEqual(further, more[0] if more else None)
            seen[found is None, further is None] = seen.get((found is None, further is None), 0) + 1
        self.assertGreater(min(seen[key] for key in ((True, True), (False, True), (False, False))), 20)

    def check_facts(self, one, other, found, most):
        play, which = found
        self.assertIs(type(play), tuple)
        self.assertTrue(is_play(one, play))
        self.assertEqual((has_play(one, play), has_play(other, play)), (which == 0, which == 1))
        self.assertLess(len(play), most)
        self.assertEqual(parting(other, one), (play, 1 - which))
        for end in range(len(play)):
            row = play[:end] + (BREAK,)
            if row != play:
                self.assertEqual(has_play(one, row), has_play(other, row))

    def test_errors(self):
        right = piece(X)
        for call in (parting, beyond):
            for thing in ODD_VALUES + [Function(2, {}, (), SKIP)]:
                for pair in ((thing, right), (right, thing), (thing, None)):
                    with self.assertRaises(BadPiece) as caught:
                        call(*pair)
                    self.assertIsNone(caught.exception.part)
            for other in (piece(X, 3), piece(GO), piece(X, 2, {"x": NUM}), piece(X, 2, {"x": NUM, "go": NUM})):
                with self.assertRaises(BadPiece) as caught:
                    call(right, other)
                self.assertEqual(caught.exception.part, "kind")
            great = too_great(NAMES, SKIP)
            for pair in ((great, piece(GO)), (piece(GO), great)):
                with self.assertRaises(TooMany) as caught:
                    call(*pair)
                self.assertEqual(caught.exception.most, 2000)


if __name__ == "__main__":
    unittest.main()
