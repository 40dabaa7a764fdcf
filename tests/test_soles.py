"""Point 46: pieces made out of plays, each one with one play alone."""

import unittest

from meanings import random_names
from playsalike.arounds import ended_around
from playsalike.alike import same
from playsalike.countings import all_plays
from playsalike.driving import driven
from playsalike.errors import BadPiece, BadPlay, TooMany
from playsalike.houses import House
from playsalike.makers import just
from playsalike.moves import moves_of
from playsalike.pieces import Piece, function_of
from playsalike.playing import is_play
from playsalike.plays import has_play, least_play, machine_of, plays_up_to
from playsalike.playwrights import around_of
from playsalike.soles import sole_piece
from samples import BOX, DO, NUM, ODD_VALUES, SKIP, name, number, some
from surroundings import Surrounded, random_play

BREAK = ("break",)
WIDE = (("num", "do", "box"), "num")


def kind_of(size, names, kind):
    return Piece(size, names, number(0) if kind == "num" else SKIP)


class SolePiece(unittest.TestCase):
    def check(self, one, play):
        sole = sole_piece(one, play)
        self.assertIsInstance(sole, Piece)
        self.assertEqual((sole.size, sole.names, sole.kind), (one.size, one.names, one.kind))
        self.assertEqual(machine_of(sole), just(moves_of(one), list(play)))
        return sole

    def check_steps(self, sole, play):
        """How many nodes stand between two moves, at most."""
        house = House(sole)
        last = 0
        for at in range(0, len(play), 2):
            self.assertEqual(house.hear(play[at]), play[at + 1])
            self.assertLessEqual(house.steps() - last, 100 * (len(play) + 10))
            last = house.steps()
        self.assertEqual(house.word, "broken" if play[-1] == BREAK else "ended")

    def test_by_hand(self):
        one = Piece(2, {"x": NUM}, name("x"))
        play = [("ask",), ("call", "x"), ("num", "x", 1), ("call", "x"), ("num", "x", 0), ("num", 1)]
        sole = self.check(one, play)
        self.assertTrue(has_play(sole, play))
        self.assertEqual(plays_up_to(sole, 20), [play])
        self.assertFalse(same(sole, Piece(2, {"x": NUM}, ("sum", name("x"), name("x")))))
        self.check_steps(sole, play)
        self.assertEqual(ended_around(sole, around_of(one, play), 10 ** 5)[0], "do")

    def test_all_short_plays(self):
        seen = 0
        for names in ({}, {"x": NUM}, {"go": DO}, {"v": BOX}, {"f": (("num",), "do")}, {"f": (("do",), "num")},
                      {"f": (("box",), "do")},
                      {"x": NUM, "f": (("num", "box"), "do")}):
            for kind in ("num", "do"):
                one = kind_of(2, names, kind)
                for length in (2, 4, 6, 8):
                    try:
                        rows = all_plays(one, length)
                    except TooMany:
                        continue
                    for play in rows[:150]:
                        self.check(one, play)
                        seen += 1
        self.assertGreater(seen, 1000)

    def test_by_chance(self):
        rng = some(460)
        for turn in range(120):
            names = random_names(rng, 4)
            one = kind_of(rng.choice((2, 3, 4)), names, rng.choice(("num", "do")))
            play = random_play(rng, one, rng.choice((4, 8, 14, 30)), rng.random() < 0.4)
            self.assertTrue(is_play(one, play))
            sole = self.check(one, tuple(play) if turn % 2 else play)
            self.check_steps(sole, play)
            other = random_play(rng, one, 12, rng.random() < 0.4)
            told = Surrounded(sole, around_of(one, other), 10 ** 6).told()[0]
            if other == play:
                self.assertEqual(told, "broken" if play[-1] == BREAK else "do")
            elif other[-1] != BREAK:
                self.assertNotEqual(told, "do")

    def test_each_goes_with_its_own_program_alone(self):
        rng = some(461)
        one = Piece(2, {"x": NUM, "f": (("num",), "num")}, name("f", name("x")))
        rows = [random_play(rng, one, 10) for _ in range(12)]
        for play in rows:
            sole = sole_piece(piece=one, play=play)
            self.assertEqual(least_play(sole), play)
            for other in rows:
                self.assertEqual(ended_around(sole, around_of(one, other), 10 ** 5)[0] == "do", play == other)

    def test_many_nested_questions(self):
        for names, question, answer in (({"f": (("do",), "do")}, ("ask", "f", 0), ("did", "f", 0)),
                                        ({"f": WIDE}, ("ask", "f", 1), ("did", "f", 1)),
                                        ({"f": WIDE}, ("get", "f", 2), ("value", "f", 2, 1)),
                                        ({"f": WIDE}, ("set", "f", 2, 0), ("kept", "f", 2)),
                                        ({"f": WIDE}, ("ask", "f", 0), ("num", "f", 0, 1))):
            one = kind_of(2, names, "do")
            last = ("did", "f") if names["f"][1] == "do" else ("num", "f", 1)
            whole = [("ask",)] + [("call", "f"), question] * 49 + [answer, last] * 49 + [("do",)]
            self.assertEqual(len(whole), 198)
            broken = [("ask",)] + [("call", "f"), question] * 99 + [BREAK]
            for play in (whole, broken):
                sole = self.check(one, play)
                self.check_steps(sole, play)
                self.assertEqual(Surrounded(sole, around_of(one, play), 10 ** 6).told()[0], "broken"
                                 if play is broken else "do")

    def test_long_plays(self):
        rng = some(462)
        for _ in range(12):
            one = kind_of(rng.choice((2, 3, 4)), {"f": WIDE, "g": (("do", "box"), "do"), "v": BOX, "x": NUM},
                          rng.choice(("num", "do")))
            play = random_play(rng, one, 200, rng.random() < 0.4)
            self.assertGreater(len(play), 190)
            sole = self.check(one, play)
            self.check_steps(sole, play)
            digits = []
            house = House(sole)
            for at in range(0, len(play), 2):
                digits.append(house.can_hear().index(play[at]))
                house.hear(play[at])
            self.assertEqual(driven(sole, digits[1:]).moves, tuple(play))

    def test_words_of_the_piece_that_is_made(self):
        rng = some(463)
        for _ in range(40):
            words = rng.sample(["a", "b", "c", "d", "e", "n", "it", "aa"], 4)
            names = dict(zip(words, (NUM, (("box", "num"), "num"), BOX, (("do",), "do"))))
            one = kind_of(2, names, "num")
            self.check(one, random_play(rng, one, 20, rng.random() < 0.3))

    def test_errors(self):
        one = Piece(2, {"x": NUM}, name("x"))
        for thing in ODD_VALUES + [function_of(one)]:
            with self.assertRaises(BadPiece) as caught:
                sole_piece(thing, None)
            self.assertIsNone(caught.exception.part)
        for row in ODD_VALUES + [[], [("ask",)], [("ask",), ("call", "x")], [("ask",), ("num", 2)], [("ask",), ("do",)],
                                 [("ask",), ["num", 0]],
                                 [("ask",), BREAK, ("num", 0)], [("ask",), ("call", "x"), ("num", "x", 0),
                                                                 ("num", "x", 0)]]:
            with self.assertRaises(BadPlay):
                sole_piece(one, row)
        go = Piece(2, {"go": DO}, name("go"))
        for calls in (100, 300):
            with self.assertRaises(TooMany) as caught:
                sole_piece(go, [("ask",)] + [("call", "go"), ("did", "go")] * calls + [("do",)])
            self.assertEqual(caught.exception.most, 200)
        self.check(go, [("ask",)] + [("call", "go"), ("did", "go")] * 99 + [("do",)])


if __name__ == "__main__":
    unittest.main()
