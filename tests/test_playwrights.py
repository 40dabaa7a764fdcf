"""Point 43: programs around pieces made out of plays, each one for one play alone."""

import unittest

from meanings import random_names, random_piece
from playsalike.arounds import Around, ended_around, whole_of
from playsalike.countings import all_plays
from playsalike.errors import BadPiece, BadPlay, TooMany
from playsalike.machines import takes
from playsalike.pieces import Function, Piece, function_of, put
from playsalike.playing import is_play
from playsalike.plays import machine_of, plays_up_to
from playsalike.playwrights import around_of
from samples import BOX, DO, NUM, ODD_VALUES, SKIP, every_place, name, number, some
from surroundings import Surrounded, random_play

X, V = name("x"), name("v")
BREAK = ("break",)
PLENTY = 30000
WIDE = (("num", "do", "box"), "num")


def is_wanted(machine, play):
    """Whether the program around of this play should end, or break, around a piece of this machine."""
    if play[-1] == BREAK:
        return any(takes(machine, list(play[:end]) + [BREAK]) for end in range(len(play)))
    return takes(machine, play)


class AroundOf(unittest.TestCase):
    def check(self, piece, play, around=None):
        """Around the piece it ends, or breaks, exactly if it should; what the evaluator tells."""
        around = around_of(piece, play) if around is None else around
        told = ended_around(piece, around, PLENTY)[0]
        wanted = is_wanted(machine_of(piece), play)
        if play[-1] == BREAK:
            self.assertEqual(told == "broken", wanted)
            self.assertNotEqual(told, "do")
        else:
            self.assertEqual(told == "do", wanted)
        return told

    def test_by_hand(self):
        piece = Piece(2, {"x": NUM}, ("sum", X, X))
        play = [("ask",), ("call", "x"), ("num", "x", 1), ("call", "x"), ("num", "x", 0), ("num", 1)]
        around = around_of(piece, play)
        self.assertIsInstance(around, Around)
        self.assertEqual((around.size, around.names, around.kind), (2, {"x": NUM}, "num"))
        self.assertEqual(self.check(piece, play), "do")
        for term, told in (("less", X, X), "do"), (("not", ("same", X, X)), "do"), (("below", X, X), "on"), (X, "on"), \
                (("sum", X, ("sum", X, X)), "on"), (number(1), "on"), (("if", X, X, X), "on"), \
                (("then", ("if", X, SKIP, SKIP), ("not", X)), "do"), (("then", ("claim", X), ("not", X)), "do"), \
                (("then", ("claim", ("not", X)), ("not", X)), "broken"):
            with self.subTest(term=term):
                self.assertEqual(ended_around(Piece(2, {"x": NUM}, term), around, PLENTY)[0], told)
                self.check(Piece(2, {"x": NUM}, term), play, around)

    def test_plays_without_names(self):
        for size in (2, 3, 4):
            ones = [Piece(size, {}, term) for term in (number(0), number(1), ("never", "num"),
                                                       ("then", ("claim", number(0)), number(1)))]
            for play in ([("ask",), ("num", 0)], [("ask",), ("num", 1)], [("ask",), BREAK],
                         [("ask",), ("num", size - 1)]):
                for one in ones:
                    self.check(one, play)
            for play in ([("ask",), ("do",)], [("ask",), BREAK]):
                for term in (SKIP, ("never", "do"), ("claim", number(0)), ("while", number(1), SKIP)):
                    self.check(Piece(size, {}, term), play)

    def test_a_broken_play_is_also_broken_by_its_beginnings(self):
        go = name("go")
        play = [("ask",), ("call", "go"), ("did", "go"), BREAK]
        false = ("claim", number(0))
        for term, told in ((false, "broken"), (("then", go, false), "broken"), (("then", go, ("then", go, false)),
                                                                                "on"),
                           (go, "on"), (SKIP, "on"), (("then", go, ("claim", number(1))), "on")):
            self.assertEqual(self.check(Piece(2, {"go": DO}, term), play), told)

    def test_arguments_of_all_sorts(self):
        piece = Piece(3, {"f": WIDE, "v": BOX, "x": NUM},
                      name("f", ("sum", X, number(1)), ("set", V, X), V))
        play = [("ask",), ("call", "f"), ("ask", "f", 0), ("call", "x"), ("num", "x", 2), ("num", "f", 0, 0),
                ("get", "f", 2), ("get", "v"), ("value", "v", 1), ("value", "f", 2, 1), ("ask", "f", 1), ("call", "x"),
                ("num", "x", 0), ("set", "v", 0), ("kept", "v"), ("did", "f", 1), ("set", "f", 2, 2), ("set", "v", 2),
                ("kept", "v"), ("kept", "f", 2), ("num", "f", 1), ("num", 1)]
        self.assertEqual(self.check(piece, play), "do")
        for term in (name("f", ("sum", number(1), X), ("set", V, X), V), name("f", X, ("set", V, X), V),
                     name("f", ("sum", X, number(1)), ("set", V, X), ("made", ("get", V), "n", ("set", V, name("n")))),
                     name("f", ("sum", X, number(1)), ("set", V, X), ("made", ("get", V), "n", SKIP)),
                     name("f", ("sum", X, number(1)), ("if", X, SKIP, ("set", V, number(0))), V),
                     ("sum", number(0), name("f", ("sum", X, number(1)), ("set", V, X), V)),
                     ("sum", X, name("f", ("sum", X, number(1)), ("set", V, X), V))):
            self.check(Piece(3, piece.names, term), play)

    def test_questions_within_questions(self):
        f = (("do",), "do")
        inner = name("f", name("f", name("f", SKIP)))
        piece = Piece(2, {"f": f}, inner)
        play = [("ask",), ("call", "f"), ("ask", "f", 0), ("call", "f"), ("ask", "f", 0), ("call", "f"),
                ("ask", "f", 0),
                ("did", "f", 0), ("ask", "f", 0), ("did", "f", 0), ("did", "f"), ("did", "f", 0), ("did", "f"),
                ("did", "f", 0),
                ("ask", "f", 0), ("call", "f"), ("did", "f"), ("did", "f", 0), ("did", "f"), ("do",)]
        self.assertEqual(self.check(piece, play), "do")
        for term in (name("f", name("f", SKIP)), name("f", name("f", name("f", name("f", SKIP)))), name("f", SKIP)):
            self.assertEqual(self.check(Piece(2, {"f": f}, term), play), "on")

    def test_by_chance(self):
        rng = some(430)
        seen = {}
        for _ in range(50):
            names = random_names(rng, 3)
            size, kind = rng.choice((2, 2, 3, 4)), rng.choice(("num", "do"))
            pieces = [random_piece(rng, 6, names=names, size=size, kind=kind, nodes=3) for _ in range(4)]
            machines = [machine_of(piece) for piece in pieces]
            for play in self.some_plays(rng, pieces):
                around = around_of(piece=pieces[0], play=play)
                for piece, machine in zip(pieces, machines):
                    told = self.check(piece, play, around)
                    word, own = Surrounded(piece, around, 20000).told()
                    self.assertEqual({"never": "on"}.get(word, word), told)
                    self.assertLessEqual(own, 100 * (len(play) + 10) ** 2)
                    key = play[-1] == BREAK, is_wanted(machine, play)
                    seen[key] = seen.get(key, 0) + 1
        self.assertEqual(len(seen), 4)
        self.assertGreater(min(seen.values()), 50)

    def some_plays(self, rng, pieces):
        found = []
        for piece in pieces:
            try:
                rows = plays_up_to(piece, 10)
            except TooMany:
                rows = []
            found += rng.sample(rows, min(3, len(rows)))
        try:
            rows = all_plays(pieces[0], rng.choice((2, 4, 6)))
        except TooMany:
            rows = []
        return found + rng.sample(rows, min(4, len(rows)))

    def test_all_short_plays_part_all_small_pieces(self):
        names = {"x": NUM}
        terms = [X, number(0), number(1), ("sum", X, X), ("not", X), ("if", X, X, number(0)), ("never", "num"),
                 ("then", ("claim", X), X), ("then", ("claim", number(0)), X), ("then", ("if", X, SKIP, ("claim", X)),
                                                                                number(1))]
        pieces = [Piece(2, names, term) for term in terms]
        for length in (2, 4, 6):
            for play in all_plays(pieces[0], length):
                around = around_of(pieces[0], play)
                for piece in pieces:
                    self.check(piece, play, around)

    def test_words_of_the_kind_that_the_program_takes(self):
        words = ["it", "a", "b", "c", "d", "e", "h", "n", "aa", "p"]
        rng = some(431)
        for at in range(60):
            own = rng.sample(words, 3)
            names = {own[0]: NUM, own[1]: (("box", "num"), "num"), own[2]: BOX}
            x, v = name(own[0]), name(own[2])
            b = rng.choice(words)
            term = name(own[1], v, ("sum", x, ("get", v)))
            if b not in own:
                term = ("new", b, 1, name(own[1], name(b), ("sum", x, ("get", v))))
            piece = Piece(2, names, term)
            play = random_play(rng, piece, 12)
            rows = plays_up_to(piece, 10)
            for row in [play] + rng.sample(rows, min(4, len(rows))):
                self.check(piece, row)
            params = Function(2, {}, (("a", "num"),), name("a"))
            self.assertEqual(params.kind, (("num",), "num"))

    def test_long_plays(self):
        rng = some(432)
        loop = Piece(2, {"x": NUM, "go": DO}, ("while", X, name("go")))
        for rounds, moves in ((49, 200), (48, 196)):
            play = [("ask",)] + [("call", "x"), ("num", "x", 1), ("call", "go"), ("did", "go")] * rounds
            play += [("call", "x"), ("num", "x", 0), ("do",)]
            self.assertEqual(len(play), moves)
            self.assertEqual(self.check(loop, play), "do")
            other = put(loop, "go", Function(2, {"x": NUM, "go": DO}, (), ("then", name("go"), SKIP)))
            self.assertEqual(self.check(other, play), "do")
            self.assertEqual(self.check(Piece(2, loop.names, ("if", X, ("while", X, name("go")), SKIP)), play), "on")
        for _ in range(12):
            names = {"f": WIDE, "g": (("do", "box"), "do"), "v": BOX, "x": NUM}
            piece = Piece(rng.choice((2, 3, 4)), names, X)
            play = random_play(rng, piece, 200, rng.random() < 0.4)
            self.assertTrue(is_play(piece, play))
            self.assertGreater(len(play), 190)
            around = around_of(piece, play)
            self.assertLess(sum(len(every_place(function.term)) for function in around.functions.values()), 6000)
            for term in (X, ("get", V), name("f", X, SKIP, V), name("f", X, name("g", SKIP, V), V)):
                word, own = Surrounded(Piece(piece.size, names, term), around, 10 ** 6).told()
                self.assertEqual(word, "never")
                self.assertLessEqual(own, 100 * (len(play) + 10) ** 2)

    def test_too_many_moves(self):
        piece = Piece(2, {"go": DO, "x": NUM}, SKIP)
        for calls, last in ((100, ("do",)), (100, BREAK), (150, ("do",)), (400, BREAK)):
            play = [("ask",)] + [("call", "go"), ("did", "go")] * calls + [last]
            with self.assertRaises(TooMany) as caught:
                around_of(piece, play)
            self.assertEqual(caught.exception.most, 200)
        self.check(piece, [("ask",)] + [("call", "go"), ("did", "go")] * 99 + [BREAK])
        with self.assertRaises(BadPlay):
            around_of(piece, [("ask",)] + [("call", "go"), ("did", "go")] * 150)

    def test_it_hangs_on_the_kind_and_the_play_alone(self):
        rng = some(433)
        for _ in range(25):
            names = random_names(rng, 4)
            one, other = (random_piece(rng, 5, names=names, size=2, kind="do", nodes=2) for _ in range(2))
            play = random_play(rng, one, 14, rng.random() < 0.5)
            self.assertEqual(around_of(one, play), around_of(other, tuple(play)))
            turned = Piece(2, dict(reversed(list(names.items()))), one.term)
            self.assertEqual(around_of(one, play), around_of(turned, play))

    def test_rows_that_are_no_plays(self):
        piece = Piece(2, {"x": NUM}, X)
        rows = [[], [("ask",)], [("ask",), ("call", "x")], [("ask",), ("num", 2)], [("ask",), ("do",)], [("num", 0)],
                [("ask",), ("call", "y"), ("num", "y", 0), ("num", 0)], [("ask",), ("num", 0), ("ask",), ("num", 0)],
                [("ask",), ("call", "x"), ("num", "x", 0), ("num", "x", 0)], [("ask",), ["num", 0]],
                [("ask",), BREAK, ("num", 0)], [("ask",), ("num", True)]]
        for row in rows + ODD_VALUES:
            with self.assertRaises(BadPlay):
                around_of(piece, row)

    def test_no_pieces(self):
        for thing in ODD_VALUES + [function_of(Piece(2, {}, SKIP))]:
            with self.assertRaises(BadPiece) as caught:
                around_of(thing, None)
            self.assertIsNone(caught.exception.part)

    def test_the_whole_is_made_of_it(self):
        piece = Piece(2, {"x": NUM, "f": (("num",), "num")}, name("f", name("f", X)))
        for play in plays_up_to(piece, 8):
            whole = whole_of(piece, around_of(piece, play))
            self.assertEqual((whole.size, whole.names, whole.kind), (2, {}, "do"))


if __name__ == "__main__":
    unittest.main()
