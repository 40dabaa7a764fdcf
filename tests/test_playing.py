"""Point 31: begun plays, plays, and the questions that wait."""

import unittest

from meanings import Player, can_come, random_piece
from playsalike.errors import BadPiece, BadRow
from playsalike.moves import moves_of
from playsalike.pieces import Function, Piece
from playsalike.playing import is_begun, is_play, waiting
from samples import BOX, DO, NUM, ODD_VALUES, SKIP, number, some

NAMES = {"f": (("num", "box"), "num"), "go": (("do",), "do"), "v": BOX, "x": NUM}
PIECE = Piece(2, NAMES, number(0))
ASK = ("ask",)
CALL = ("call", "f")
BREAK = ("break",)

# A long play, with the questions that wait behind each of its beginnings.
LONG = [
    (ASK, [ASK]),
    (CALL, [ASK, CALL]),
    (("ask", "f", 0), [ASK, CALL, ("ask", "f", 0)]),
    (("call", "x"), [ASK, CALL, ("ask", "f", 0), ("call", "x")]),
    (("num", "x", 1), [ASK, CALL, ("ask", "f", 0)]),
    (("call", "f"), [ASK, CALL, ("ask", "f", 0), CALL]),
    (("set", "f", 1, 0), [ASK, CALL, ("ask", "f", 0), CALL, ("set", "f", 1, 0)]),
    (("set", "v", 1), [ASK, CALL, ("ask", "f", 0), CALL, ("set", "f", 1, 0), ("set", "v", 1)]),
    (("kept", "v"), [ASK, CALL, ("ask", "f", 0), CALL, ("set", "f", 1, 0)]),
    (("kept", "f", 1), [ASK, CALL, ("ask", "f", 0), CALL]),
    (("num", "f", 0), [ASK, CALL, ("ask", "f", 0)]),
    (("num", "f", 0, 1), [ASK, CALL]),
    (("get", "f", 1), [ASK, CALL, ("get", "f", 1)]),
    (("get", "v"), [ASK, CALL, ("get", "f", 1), ("get", "v")]),
    (("value", "v", 0), [ASK, CALL, ("get", "f", 1)]),
    (("value", "f", 1, 1), [ASK, CALL]),
    (("num", "f", 1), [ASK]),
    (("call", "go"), [ASK, ("call", "go")]),
    (("ask", "go", 0), [ASK, ("call", "go"), ("ask", "go", 0)]),
    (("did", "go", 0), [ASK, ("call", "go")]),
    (("did", "go"), [ASK]),
    (("num", 1), []),
]
MOVES = [move for move, _ in LONG]


def by_words(piece, row):
    """Whether a row is begun, as point 31 tells, and what waits; None if it is not."""
    answers = {"ask": ("num", "do", "did"), "call": ("num", "did"), "get": ("value",), "set": ("kept",)}
    waits = []
    for at, move in enumerate(row):
        if type(move) is not tuple or not any(move == one and list(map(type, move)) == list(map(type, one))
                                              for one in moves_of(piece)):
            return None
        heard = (move == ASK or move[0] in ("ask", "get", "set") and len(move) == 3 + (move[0] == "set")
                 or move[0] in ("num", "value") and len(move) == 3 or move[0] in ("did", "kept") and len(move) == 2)
        if heard != (at % 2 == 0) or at > 0 and (not waits or row[at - 1] == BREAK):
            return None
        if at == 0 and move != ASK or at > 0 and move == ASK:
            return None
        if move == BREAK:
            continue
        if move[0] in answers:
            if heard and at > 0 and waits[-1] != ("call", move[1]):
                return None
            waits.append(move)
            continue
        asked = waits.pop()
        about = asked[1:-1] if asked[0] == "set" else asked[1:]
        told = move[1:-1] if move[0] in ("num", "value") else move[1:]
        if move[0] not in answers[asked[0]] or about != told:
            return None
    return waits


class Playing(unittest.TestCase):
    def test_a_long_play(self):
        for at, (_, waits) in enumerate(LONG):
            row = MOVES[:at + 1]
            self.assertTrue(is_begun(PIECE, row))
            self.assertTrue(is_begun(piece=PIECE, thing=tuple(row)))
            self.assertEqual(waiting(PIECE, row), waits)
            self.assertEqual(waiting(piece=PIECE, row=tuple(row)), waits)
            self.assertEqual(is_play(PIECE, row), at == len(LONG) - 1)
        self.assertTrue(is_play(piece=PIECE, thing=tuple(MOVES)))

    def test_breaks(self):
        for at in range(1, len(MOVES), 2):
            row = MOVES[:at] + [BREAK]
            self.assertTrue(is_play(PIECE, row))
            self.assertEqual(waiting(PIECE, row), LONG[at - 1][1])
            for further in (MOVES[at], ("num", "f", 0), BREAK, ("num", 0)):
                self.assertFalse(is_begun(PIECE, row + [further]))
        for at in range(0, len(MOVES), 2):
            self.assertFalse(is_begun(PIECE, MOVES[:at] + [BREAK]))

    def test_no_play(self):
        for row in ([], [("call", "f")], [ASK, ASK], [ASK, ("num", 2)], [ASK, ("do",)], [ASK, ("num", "x", 0)],
                    [ASK, ("call", "v")], [ASK, ("call", "y")], [ASK, CALL, ("did", "f")], [ASK, CALL, ("num", "x", 0)],
                    [ASK, CALL, ("ask", "f", 1)], [ASK, CALL, ("get", "f", 0)], [ASK, CALL, ("ask", "go", 0)],
                    [ASK, ("get", "v"), ("kept", "v")], [ASK, ("set", "v", 0), ("value", "v", 0)],
                    [ASK, ("num", 0), ("num", "x", 0)], [ASK, ("num", 0), ASK], [ASK, CALL, CALL],
                    [ASK, ("get", "v"), ("get", "f", 1)], [ASK, ("call", "x"), ("ask", "f", 0)],
                    [ASK, CALL, ("num", "f", 0), ("num", "f", 0, 0)], [ASK, ("num", "f", 0, 0)],
                    [("get",)], [("set", 0)], [ASK, ("value", 0)], [ASK, ("kept",)]):
            self.assertFalse(is_begun(PIECE, row), row)
            self.assertFalse(is_play(PIECE, row), row)
            with self.assertRaises(BadRow):
                waiting(PIECE, row)
        self.assertTrue(is_play(Piece(2, {}, SKIP), [ASK, ("do",)]))
        self.assertFalse(is_begun(Piece(2, {}, SKIP), [ASK, ("num", 0)]))

    def test_moves_of_the_piece_whatever_is_in_its_term(self):
        self.assertTrue(is_play(Piece(2, NAMES, ("never", "num")), MOVES))
        self.assertFalse(is_play(Piece(2, {**NAMES, "x": DO}, number(0)), MOVES))
        self.assertTrue(is_begun(Piece(3, NAMES, number(0)), [ASK, ("num", 2)]))

    def test_rows_that_are_changed(self):
        rng = some(31)
        every = moves_of(PIECE)
        seen = {True: 0, False: 0}
        for _ in range(4000):
            row = MOVES[:rng.randint(1, len(MOVES))]
            for _ in range(rng.randint(0, 2)):
                at = rng.randrange(len(row)) if row else 0
                way = rng.choice(("out", "twice", "other", "swap", "in", "end"))
                if way == "out":
                    row = row[:at] + row[at + 1:]
                elif way == "twice":
                    row = row[:at] + row[at:at + 1] + row[at:]
                elif way == "other":
                    row = row[:at] + [rng.choice(every)] + row[at + 1:]
                elif way == "swap" and at + 1 < len(row):
                    row = row[:at] + [row[at + 1], row[at]] + row[at + 2:]
                elif way == "in":
                    row = row[:at] + [rng.choice(every)] + row[at:]
                else:
                    row = row + [rng.choice(every)]
            waits = by_words(PIECE, row) if row else None
            self.assertEqual(is_begun(PIECE, row), waits is not None, row)
            ended = waits is not None and (waits == [] or row[-1] == BREAK)
            self.assertEqual(is_play(PIECE, row), ended, row)
            if waits is not None:
                self.assertEqual(waiting(PIECE, row), waits)
            seen[waits is not None] += 1
        self.assertGreater(min(seen.values()), 500)

    def test_what_players_do_is_begun(self):
        rng = some(32)
        for _ in range(300):
            piece = random_piece(rng, 5)
            heard = [ASK]
            for _ in range(8):
                word, row, _ = Player(piece, heard).played()
                if word == "lost":
                    break
                self.assertTrue(is_begun(piece, row))
                self.assertEqual(is_play(piece, row), word != "waits")
                self.assertEqual(waiting(piece, row), by_words(piece, row))
                if word != "waits":
                    break
                heard.append(rng.choice(can_come(piece, row)))

    def test_any_value(self):
        odd = [[ASK, ("num", True)], [["ask"]], [ASK, ["num", 0]], [ASK, CALL, ("ask", "f", False)], "ask", ("ask",),
               [ASK, ("num", 0.0)], [ASK, None], {ASK: 1}, [ASK, CALL, ("num", "f", True)], [("ask", "f")],
               [ASK, ("set", "v", True)], [ASK, ()], [()]]
        for thing in ODD_VALUES + odd:
            self.assertIs(is_begun(PIECE, thing), False)
            self.assertIs(is_play(PIECE, thing), False)
            with self.assertRaises(BadRow):
                waiting(PIECE, thing)
        self.assertIs(is_begun(PIECE, [ASK]), True)
        self.assertIs(is_play(PIECE, [ASK, ("num", 0)]), True)

    def test_no_piece(self):
        for thing in ODD_VALUES + [Function(2, {}, (), SKIP)]:
            for call in (is_begun, is_play, waiting):
                with self.assertRaises(BadPiece) as caught:
                    call(thing, None)
                self.assertIsNone(caught.exception.part)

    def test_what_is_returned_is_new(self):
        row = [ASK, CALL]
        waiting(PIECE, row).append(1)
        self.assertEqual(waiting(PIECE, row), [ASK, CALL])
        self.assertEqual(row, [ASK, CALL])


if __name__ == "__main__":
    unittest.main()
