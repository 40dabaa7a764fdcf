"""Point 83: texts of begun plays, and where they go wrong."""

import re
import unittest

from grammar import EVERY
from meanings import random_names
from playsalike.errors import BadPiece, BadRow, BadText
from playsalike.heardmoves import heard_moves, told_moves
from playsalike.pieces import Piece, function_of
from playsalike.playing import is_begun, is_play
from playsalike.plays import plays_up_to
from playsalike.playtexts import next_in_play, play_of_text, play_text
from samples import BOX, DO, NUM, ODD_VALUES, SKIP, name, number, some
from surroundings import random_play

F = Piece(2, {"f": (("num",), "do")}, name("f", number(1)))
WIDE = Piece(3, {"f": (("num", "box"), "num"), "v": BOX, "go": DO}, number(0))
TEXT = "ask; call f; ask f 0; num f 0 1; did f; do"
ROW = [("ask",), ("call", "f"), ("ask", "f", 0), ("num", "f", 0, 1), ("did", "f"), ("do",)]


def wrong_at(piece, text):
    """Where a text is wrong first, None if it is a text."""
    try:
        play_of_text(piece, text)
    except BadText as error:
        return error.at
    return None


def told_by_all_ways(piece, text):
    """A second way: the moves of a whole text, None if it is none."""
    if re.search("[0-9][0-9]|[^a-z0-9; ]", text):
        return None
    row = [tuple(int(thing) if thing.isdigit() else thing for thing in re.findall("[a-z]+|[0-9]", part))
           for part in text.split(";")]
    return row if is_begun(piece, row) else None


class PlayTexts(unittest.TestCase):
    def test_by_hand(self):
        self.assertEqual(play_text(F, ROW), TEXT)
        self.assertEqual(play_of_text(F, TEXT), ROW)
        self.assertEqual(play_text(piece=F, row=tuple(ROW[:3])), "ask; call f; ask f 0")
        self.assertEqual(play_of_text(piece=F, text=" ask;call f ; ask f0;num f0 1;did f;do  "), ROW)
        self.assertEqual(play_text(F, [("ask",), ("call", "f"), ("ask", "f", 0), ("break",)]),
                         "ask; call f; ask f 0; break")
        row = [("ask",), ("set", "v", 2), ("kept", "v"), ("get", "v"), ("value", "v", 0), ("call", "f"),
               ("set", "f", 1, 2), ("kept", "f", 1), ("num", "f", 2), ("num", 1)]
        text = "ask; set v 2; kept v; get v; value v 0; call f; set f 1 2; kept f 1; num f 2; num 1"
        self.assertEqual((play_text(WIDE, row), play_of_text(WIDE, text)), (text, row))

    def test_there_and_back(self):
        rng = some(830)
        for _ in range(60):
            piece = Piece(rng.choice((2, 3, 4)), random_names(rng, 4), SKIP if rng.random() < 0.5 else number(0))
            play = random_play(rng, piece, rng.choice((2, 6, 20, 60)), rng.random() < 0.3)
            for end in rng.sample(range(1, len(play) + 1), min(4, len(play))):
                row = play[:end]
                text = play_text(piece, row)
                self.assertEqual(play_of_text(piece, text), row)
                self.assertEqual(text, "; ".join(" ".join(str(thing) for thing in move) for move in row))
                self.assertEqual(next_in_play(piece, text)[0], True)

    def test_where_texts_are_wrong(self):
        for text, at in (
                ("", 0),
                ("as", 2),
                ("ask;", 4),
                ("ask; ask", 5),
                ("ask call", 4),
                ("ask; do; do", 7),
                ("ask; do;", 7),
                ("ask; do  ", None),
                ("ask; break", None),
                ("ask; break;", 10),
                ("ask; num", 5),
                ("ask; call g", 10),
                ("ask; call fg", 11),
                ("ask; callf", 9),
                ("ask; call f; call", 13),
                ("ask; call f; did f; did", 21),
                ("ask; call f; did f; d", 21),
                ("ask; call f; ask f 1", 19),
                ("ask; call f; ask f 0; num f 0 2", 30),
                ("ask; call f; ask f 0; num f 01", 29),
                ("ask; call f; ask f 0; num f0 1", None),
                ("ask; call f; ask f 0; do", 22),
                ("ask; call f; ask f 0; call f; did f; num f 0 0", None),
                ("ask; call f; ask f 0; call f; did f; did f", 37),
                ("ask, call", 3),
                ("ask; 'call f", 5),
                ("ask\n", 3),
                ("call f", 0),
                ("ask 0", 4),
                ("ask; do x", 8),
                (TEXT + ";", len(TEXT)),
                (TEXT + " ", None),
                ("ask; call f; get", 13)):
            with self.subTest(text=text):
                self.assertEqual(wrong_at(F, text), at)
                self.assertEqual(told_by_all_ways(F, text) is not None, at is None)

    def test_next_signs_by_hand(self):
        self.assertEqual(next_in_play(F, ""), (False, " a"))
        self.assertEqual(next_in_play(piece=F, text="ask"), (True, " ;"))
        self.assertEqual(next_in_play(F, "ask;"), (False, " bcd"))
        self.assertEqual(next_in_play(F, "ask; call f; "), (False, " ad"))
        self.assertEqual(next_in_play(F, "ask; call f; ask f"), (False, " 0"))
        self.assertEqual(next_in_play(F, "ask; call f; ask f 0; num f 0"), (False, " "))
        self.assertEqual(next_in_play(F, "ask; call f; ask f 0; num f 0 "), (False, " 01"))
        self.assertEqual(next_in_play(F, "ask; call f; ask f 0; num "), (False, " f"))
        self.assertEqual(next_in_play(F, "ask; do"), (True, " "))
        self.assertEqual(next_in_play(F, "ask; d"), (False, "o"))
        self.assertEqual(next_in_play(F, "ask; break "), (True, " "))
        self.assertEqual(next_in_play(WIDE, "ask; "), (False, " bcgns"))
        self.assertEqual(next_in_play(WIDE, "ask; num "), (False, " 012"))
        self.assertEqual(next_in_play(WIDE, "ask; call "), (False, " fg"))
        self.assertEqual(next_in_play(WIDE, "ask; call f; "), (False, " agns"))
        self.assertEqual(next_in_play(WIDE, "ask; call f; num f 1; "), (False, " bcgns"))

    def test_cut_at_every_sign(self):
        rng = some(831)
        for _ in range(10):
            piece = Piece(rng.choice((2, 3)), random_names(rng, 3), number(0))
            play = random_play(rng, piece, 10, rng.random() < 0.4)
            text = play_text(piece, play)
            if rng.random() < 0.5:
                text = text.replace("; ", rng.choice((";", " ; ", " ;")))
            for end in range(len(text) + 1):
                begun = text[:end]
                is_text, signs = next_in_play(piece, begun)
                self.assertEqual(is_text, told_by_all_ways(piece, begun) is not None)
                self.assertEqual(is_text, wrong_at(piece, begun) is None)
                self.assertEqual(signs, "".join(sorted(set(signs))))
                if end < len(text):
                    self.assertIn(text[end], signs)
                for sign in rng.sample(EVERY, 6) + list(" ;abcdgknsv012"):
                    place = wrong_at(piece, begun + sign)
                    self.assertEqual(sign in signs, place is None or place == end + 1, (begun, sign))
                    if sign in signs:
                        self.assertIsNotNone(told_by_all_ways(piece, self.completed(piece, begun + sign)))

    def completed(self, piece, begun):
        text = begun
        for _ in range(60):
            is_text, signs = next_in_play(piece, text)
            if is_text:
                return text
            text += next((sign for sign in signs if sign != " "), " ")
        self.fail(begun)

    def test_turns_and_questions(self):
        # All moves of the piece behind some begun play: just those that can follow are read.
        rng = some(832)
        for _ in range(30):
            piece = Piece(2, random_names(rng, 3), SKIP)
            play = random_play(rng, piece, 14)
            begun = play[:rng.randint(1, len(play))]
            for move in heard_moves(piece) + told_moves(piece):
                row = begun + [move]
                text = play_text(piece, begun) + "; " + " ".join(str(thing) for thing in move)
                self.assertEqual(wrong_at(piece, text) is None, is_begun(piece, row))

    def test_all_plays_of_a_piece(self):
        piece = Piece(2, {"f": (("num",), "num"), "x": NUM}, name("f", ("sum", name("x"), name("x"))))
        for play in plays_up_to(piece, 10):
            self.assertTrue(is_play(piece, play_of_text(piece, play_text(piece, play))))

    def test_errors_in_their_sequence(self):
        for thing in ODD_VALUES + [function_of(F)]:
            for call in (play_text, play_of_text, next_in_play):
                with self.assertRaises(BadPiece) as caught:
                    call(thing, None)
                self.assertIsNone(caught.exception.part)
        for row in ODD_VALUES + [[], [("call", "f")], [("ask",), ("did", "f")], ROW + [("ask",)], [("ask",), ["do"]],
                                 [("ask",), ("do",), ("do",)]]:
            with self.assertRaises(BadRow):
                play_text(F, row)
        for call in (play_of_text, next_in_play):
            for thing in [thing for thing in ODD_VALUES if not isinstance(thing, str)] + [ROW]:
                with self.assertRaises(BadText) as caught:
                    call(F, thing)
                self.assertIsNone(caught.exception.at)
        with self.assertRaises(BadText) as caught:
            next_in_play(F, "ask; dot")
        self.assertEqual(caught.exception.at, 7)


if __name__ == "__main__":
    unittest.main()
