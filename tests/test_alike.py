"""Point 40: pieces that do the same, and pieces of which one never does more."""

import unittest

from meanings import random_names, random_piece
from playsalike.alike import less, same
from playsalike.arounds import Around, ended_around
from playsalike.errors import BadPiece, TooMany
from playsalike.pieces import Function, Piece, put
from playsalike.plays import machine_of, plays_up_to
from samples import BOX, DO, NUM, ODD_VALUES, SKIP, name, number, some, too_great

X, GO, V = name("x"), name("go"), name("v")
FALSE = ("claim", number(0))


def piece(term, names=None, size=2):
    return Piece(size, {"go": DO, "x": NUM} if names is None else names, term)


def told(first, second, names=None, size=2):
    """same, less one way and the other way."""
    one, other = piece(first, names, size), piece(second, names, size)
    assert same(one, other) == same(other, one)
    return same(one, other), less(one, other), less(other, one)


def less_by_rows(one, other, most):
    """Whether each play of at most so many moves is a play of other, or begins as a broken one."""
    others = {tuple(row) for row in plays_up_to(other, most)}
    for row in plays_up_to(one, most):
        begun = [tuple(row[:end]) + (("break",),) for end in range(len(row))] if row[-1] == ("break",) else []
        if tuple(row) not in others and not any(one in others for one in begun):
            return False
    return True


class Alike(unittest.TestCase):
    def test_by_hand(self):
        self.assertEqual(told(("then", GO, FALSE), FALSE), (False, True, False))

    def test_unbroken(self):
        both = (True, True, True)
        self.assertEqual(told(("sum", X, number(1)), ("not", X)), both)
        self.assertEqual(told(("sum", X, number(1)), ("not", X), size=3), (False, False, False))
        self.assertEqual(told(("new", "b", 0, ("then", ("set", name("b"), X), ("get", name("b")))), X), both)
        self.assertEqual(told(("while", X, GO), ("if", X, ("then", GO, ("while", X, GO)), SKIP)), both)
        self.assertEqual(told(X, ("if", X, X, number(0))), (False, False, False))
        self.assertEqual(told(("never", "num"), X), (False, True, False))
        self.assertEqual(told(("never", "num"), ("then", ("while", number(1), GO), X)), both)
        self.assertEqual(told(("if", X, ("never", "do"), SKIP), ("if", X, SKIP, SKIP)), (False, True, False))
        self.assertEqual(told(("get", V), ("get", V), {"v": BOX}), both)

    def test_broken_on_one_side_and_on_both(self):
        self.assertEqual(told(("claim", X), ("if", X, SKIP, SKIP)), (False, False, False))
        self.assertEqual(told(("if", X, SKIP, ("never", "do")), ("claim", X)), (False, True, False))
        self.assertEqual(told(("if", X, GO, FALSE), ("then", ("claim", X), GO)), (True, True, True))
        self.assertEqual(told(("then", ("if", X, SKIP, SKIP), FALSE), FALSE), (False, True, False))
        self.assertEqual(told(("then", GO, ("claim", X)), ("then", GO, FALSE)), (False, False, False))
        self.assertEqual(told(("then", GO, ("then", ("claim", X), ("never", "do"))), ("then", GO, FALSE)),
                         (False, True, False))
        self.assertEqual(told(("if", X, ("then", GO, FALSE), SKIP), ("if", X, FALSE, SKIP)), (False, True, False))
        self.assertEqual(told(("then", GO, FALSE), ("then", ("if", X, SKIP, SKIP), FALSE)), (False, False, False))
        self.assertEqual(told(FALSE, SKIP), (False, False, False))
        self.assertEqual(told(("never", "do"), FALSE), (False, True, False))

    def test_breaks_of_the_other_are_told_apart_by_what_is_heard_ahead(self):
        one = ("if", X, ("then", GO, FALSE), ("then", GO, FALSE))
        self.assertEqual(told(one, ("if", X, FALSE, GO)), (False, False, False))
        self.assertEqual(told(one, ("if", X, FALSE, ("then", GO, FALSE))), (False, True, False))

    def test_by_chance_against_rows(self):
        rng = some(40)
        seen = {}
        for at in range(500):
            names = random_names(rng, 2)
            one = random_piece(rng, 4, size=2, names=names, kind="do", nodes=3)
            other = random_piece(rng, 4, size=2, names=names, kind="do", nodes=3)
            machines = machine_of(one), machine_of(other)
            most = len(machines[0].ways) + len(machines[1].ways)
            self.assertEqual(same(piece=one, other=other), machines[0] == machines[1])
            if most > 12:
                continue
            try:
                wanted = less_by_rows(one, other, most), less_by_rows(other, one, most)
            except TooMany:
                continue
            self.assertEqual((less(piece=one, other=other), less(other, one)), wanted)
            self.assertEqual(same(one, other), wanted == (True, True))
            seen[wanted] = seen.get(wanted, 0) + 1
        self.assertGreater(min(seen.get(key, 0) for key in ((True, True), (True, False), (False, True), (False, False))), 15)

    def test_same_is_less_both_ways(self):
        rng = some(41)
        for _ in range(250):
            names = random_names(rng, 2)
            one, other = (random_piece(rng, 5, size=2, names=names, kind="num", nodes=4) for _ in range(2))
            self.assertEqual(same(one, other), less(one, other) and less(other, one))
            self.assertTrue(same(one, one) and less(one, one))
            for claims in (one, other):
                after = Piece(2, names, ("then", ("never", "do"), claims.term))
                self.assertTrue(less(after, one))

    def test_in_programs_around(self):
        rng = some(42)
        names = {"x": NUM, "v": BOX, "go": (("do",), "do")}
        got = ("get", name("b"))
        add = ("set", name("b"), ("sum", got, number(1)))
        arounds = []
        for ending in (name("it"), ("then", name("it"), name("it")),
                       ("then", name("it"), ("if", got, ("never", "do"), SKIP))):
            for inner in (SKIP, name("p"), ("then", name("p"), add), ("while", got, name("p")), ("never", "do")):
                functions = {"x": Function(2, {"b": BOX}, (), ("then", add, got)), "v": Function(2, {"b": BOX}, (), name("b")),
                             "go": Function(2, {"b": BOX}, (("p", "do"),), inner)}
                arounds.append(Around(2, names, "do", (("b", 1),), functions, ending))
        for _ in range(120):
            one, other = (random_piece(rng, 5, size=2, names=names, kind="do", nodes=3) for _ in range(2))
            for around in arounds:
                ended = ended_around(one, around, 3000)[0], ended_around(other, around, 3000)[0]
                if same(one, other):
                    self.assertEqual(ended[0], ended[1])
                if less(one, other) and ended[0] != "on":
                    self.assertEqual(ended[0], ended[1])
                if less(other, one) and ended[1] != "on":
                    self.assertEqual(ended[0], ended[1])

    def test_made_by_put(self):
        double = Function(2, {"x": NUM}, (), ("sum", X, X))
        one = put(piece(("sum", X, X)), "x", double)
        self.assertTrue(same(one, Piece(2, {"go": DO, "x": NUM}, ("sum", ("sum", X, X), ("sum", X, X)))))

    def test_errors_in_their_sequence(self):
        right = piece(X)
        for call in (same, less):
            for thing in ODD_VALUES + [Function(2, {}, (), SKIP)]:
                for pair in ((thing, right), (right, thing), (thing, thing)):
                    with self.assertRaises(BadPiece) as caught:
                        call(*pair)
                    self.assertIsNone(caught.exception.part)
            for other in (piece(X, size=3), piece(GO), piece(X, {"x": NUM}), piece(X, {"x": NUM, "go": NUM})):
                for pair in ((right, other), (other, right)):
                    with self.assertRaises(BadPiece) as caught:
                        call(*pair)
                    self.assertEqual(caught.exception.part, "kind")

    def test_too_many_states(self):
        great = too_great({"x": NUM})
        small = Piece(2, {"x": NUM}, SKIP)
        for call in (same, less):
            for pair in ((great, small), (small, great)):
                with self.assertRaises(TooMany) as caught:
                    call(*pair)
                self.assertEqual(caught.exception.most, 2000)
            with self.assertRaises(BadPiece):
                call(great, Piece(2, {}, SKIP))


if __name__ == "__main__":
    unittest.main()
