"""Point 64: how pieces can end, and which names they must ask."""

import unittest

from meanings import random_piece
from playsalike.endings import answers, must_ask, play_for
from playsalike.errors import BadNumber, BadPiece, TooMany
from playsalike.outcomes import outcome
from playsalike.pieces import Function, Piece, put
from playsalike.plays import least_play, machine_of, name_of_move, plays_up_to
from samples import BOX, DO, NUM, ODD_VALUES, SKIP, name, number, some, too_great

ASK = ("ask",)
X, GO, V = name("x"), name("go"), name("v")
NAMES = {"go": DO, "x": NUM}


def piece(term, size=2, names=None):
    return Piece(size, NAMES if names is None else names, term)


class Endings(unittest.TestCase):
    def test_answers(self):
        self.assertEqual(answers(piece=piece(X)), [0, 1])
        self.assertEqual(answers(piece(("sum", X, X))), [0, 1])
        self.assertEqual(answers(piece(("if", X, number(2), number(0)), 3)), [0, 2])
        self.assertEqual(answers(piece(("then", ("claim", X), number(3)), 4)), [3])
        self.assertEqual(answers(piece(("never", "num"))), [])
        self.assertEqual(answers(piece(("then", ("claim", number(0)), X))), [])
        self.assertEqual(answers(piece(GO)), [0])
        self.assertEqual(answers(piece(("claim", number(0)))), [])
        self.assertEqual(answers(piece(("while", number(1), GO))), [])

    def test_play_for(self):
        asks = (ASK, ("call", "x"))
        self.assertEqual(play_for(piece=piece(X), number=1), asks + (("num", "x", 1), ("num", 1)))
        self.assertEqual(play_for(piece(("if", X, X, number(0))), 0), asks + (("num", "x", 0), ("num", 0)))
        self.assertEqual(play_for(piece(("if", X, X, number(0))), 1),
                         asks + (("num", "x", 1), ("call", "x"), ("num", "x", 1), ("num", 1)))
        self.assertIsNone(play_for(piece(number(0)), 1))
        self.assertEqual(play_for(piece(("then", ("claim", X), GO)), 0),
                         asks + (("num", "x", 1), ("call", "go"), ("did", "go"), ("do",)))
        self.assertIsNone(play_for(piece(("claim", number(0))), 0))

    def test_must_ask(self):
        self.assertEqual(must_ask(piece=piece(("then", GO, X))), ["go", "x"])
        self.assertEqual(must_ask(piece(("if", X, GO, SKIP))), ["x"])
        self.assertEqual(must_ask(piece(("if", X, SKIP, SKIP))), ["x"])
        self.assertEqual(must_ask(piece(("if", X, GO, ("never", "do")))), ["go", "x"])
        self.assertEqual(must_ask(piece(("if", X, GO, ("claim", number(0))))), ["x"])
        self.assertEqual(must_ask(piece(("never", "num"))), ["go", "x"])
        self.assertEqual(must_ask(piece(SKIP)), [])
        self.assertEqual(must_ask(piece(SKIP, 2, {})), [])
        boxes = {"v": BOX, "w": BOX, "f": (("box",), "num")}
        self.assertEqual(must_ask(piece(name("f", V), 2, boxes)), ["f"])
        self.assertEqual(must_ask(piece(("set", V, name("f", name("w"))), 2, boxes)), ["f", "v"])
        # A word of an own box is no move of the name.
        self.assertEqual(must_ask(piece(("new", "v", 0, ("set", V, name("f", V))), 2, boxes)), ["f"])

    def test_by_chance_against_plays(self):
        rng = some(64)
        seen = {}
        for _ in range(400):
            told = random_piece(rng, 5, most=2)
            states = len(machine_of(told).ways)
            if states > 12:
                continue
            try:
                rows = plays_up_to(told, states)
            except TooMany:
                continue
            last = [("do",)] if told.kind == "do" else [("num", n) for n in range(told.size)]
            found = [n for n, move in enumerate(last) if any(row[-1] == move for row in rows)]
            self.assertEqual(answers(told), found)
            for n, move in enumerate(last):
                ended = [tuple(row) for row in rows if row[-1] == move]
                self.assertEqual(play_for(told, n), ended[0] if ended else None)
            must = [word for word in told.names if all(any(name_of_move(move) == word for move in row) for row in rows)]
            self.assertEqual(must_ask(told), must)
            if not rows:
                self.assertEqual(must_ask(told), sorted(told.names))
            seen[len(found), len(must)] = True
        self.assertGreater(len(seen), 7)

    def test_names_that_never_end(self):
        rng = some(65)
        for _ in range(150):
            told = random_piece(rng, 5, size=2, names={"x": NUM, "f": (("do",), "do")}, nodes=3)
            functions = {"x": Function(2, {}, (), ("never", "num")), "f": Function(2, {}, (("p", "do"),), ("never", "do"))}
            for word in must_ask(told):
                self.assertIsNone(least_play(put(told, word, functions[word])))
            for word in set(functions) - set(must_ask(told)):
                self.assertIsNotNone(least_play(put(told, word, functions[word])))

    def test_answers_of_whole_programs(self):
        rng = some(66)
        for _ in range(150):
            told = random_piece(rng, 5, size=2, names={"x": NUM, "f": (("num",), "num")}, nodes=3, kind="num")
            ends = {}
            for n in range(2):
                for body in (number(0), number(1), name("p"), ("not", name("p")), ("sum", name("p"), name("p"))):
                    whole = put(put(told, "x", Function(2, {}, (), number(n))), "f", Function(2, {}, (("p", "num"),), body))
                    word, worth = outcome(whole)
                    ends[worth if word == "num" else None] = True
            for n in ends:
                self.assertTrue(n is None or n in answers(told))

    def test_errors(self):
        for thing in ODD_VALUES + [Function(2, {}, (), SKIP)]:
            for call in (lambda: answers(thing), lambda: play_for(thing, None), lambda: must_ask(thing)):
                with self.assertRaises(BadPiece) as caught:
                    call()
                self.assertIsNone(caught.exception.part)
        for told, wrong in ((piece(X), (-1, 2, True, None, "0", 0.0)), (piece(GO), (1, -1, False, None))):
            for n in wrong:
                with self.assertRaises(BadNumber) as caught:
                    play_for(told, n)
                self.assertEqual(caught.exception.part, "number")
        great = too_great(NAMES, GO)
        for call in (answers, must_ask, lambda told: play_for(told, 0)):
            with self.assertRaises(TooMany) as caught:
                call(great)
            self.assertEqual(caught.exception.most, 2000)
        with self.assertRaises(BadNumber):
            play_for(great, 1)


if __name__ == "__main__":
    unittest.main()
