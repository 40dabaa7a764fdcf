"""Point 55 and others: whether a piece has just the plays of a machine, told without its own machine."""

import unittest

from meanings import random_names, random_piece
from playsalike.likeness import has_just
from playsalike.pieces import Piece
from playsalike.plays import machine_of
from samples import DO, NUM, SKIP, name, number, some, too_great

X, GO = name("x"), name("go")
NAMES = {"x": NUM, "go": DO}


class HasJust(unittest.TestCase):
    def test_by_hand(self):
        never = ("never", "do")
        for one, other, wanted in (
                (("while", X, GO), ("if", X, ("then", GO, ("while", X, GO)), SKIP), True),
                (("while", X, GO), ("if", X, GO, SKIP), False),
                (("if", X, GO, GO), ("then", ("if", X, SKIP, SKIP), GO), True),
                (("if", X, never, SKIP), ("if", X, ("then", GO, never), SKIP), True),
                (("if", X, never, SKIP), ("if", X, ("claim", number(0)), SKIP), False),
                (never, ("then", GO, ("while", number(1), X and GO)), True),
                (never, SKIP, False),
                (("claim", X), ("if", X, SKIP, never), False),
                (GO, SKIP, False)):
            pieces = [Piece(2, NAMES, term) for term in (one, other)]
            self.assertIs(has_just(pieces[0], machine_of(pieces[1])), wanted)
            self.assertIs(has_just(pieces[1], machine_of(pieces[0])), wanted)

    def test_by_chance(self):
        rng = some(551)
        seen = {True: 0, False: 0}
        for _ in range(500):
            names = random_names(rng, 2)
            size, kind = rng.choice((2, 3)), rng.choice(("num", "do"))
            one, other = (random_piece(rng, 4, names=names, size=size, kind=kind, nodes=2) for _ in range(2))
            wanted = machine_of(one) == machine_of(other)
            self.assertEqual(has_just(one, machine_of(other)), wanted)
            self.assertEqual(has_just(other, machine_of(one)), wanted)
            seen[wanted] += 1
        self.assertGreater(min(seen.values()), 50)

    def test_a_piece_whose_own_machine_would_be_too_great(self):
        self.assertFalse(has_just(too_great({"x": NUM}), machine_of(Piece(2, {"x": NUM}, SKIP))))


if __name__ == "__main__":
    unittest.main()
