"""Point 56: other numbers for boxes to begin with, and boxes that need not be set."""

import unittest

from meanings import random_piece
from playsalike.alike import same
from playsalike.boxes import begins, is_idle
from playsalike.errors import BadPiece, BadPlace, TooMany
from playsalike.pieces import Piece, function_of, made_piece
from playsalike.places import part_at, places
from samples import BOX, DO, NUM, ODD_VALUES, SKIP, name, number, some, term_parts, too_great
from termparts import changed

X, V, GO, B = name("x"), name("v"), name("go"), name("b")
NAMES = {"x": NUM, "v": BOX, "go": DO, "f": (("box", "do"), "num")}


def piece(term, names=None, size=2):
    return Piece(size, NAMES if names is None else names, term)


def new(body, word="b", n=0):
    return ("new", word, n, body)


def without_sets(term, word, got=None):
    """The body of a box with its sets left out, and, if a number is told, with that in the place of its gets."""
    if term == ("get", name(word)) and got is not None:
        return number(got)
    things = list(term)
    for path, part in term_parts(term):
        own = path == (3,) and (term[0] == "new" and term[1] == word or term[0] == "made" and term[2] == word)
        made = part if own else without_sets(part, word, got)
        if term[0] == "name":
            args = list(things[2])
            args[path[1]] = made
            things[2] = tuple(args)
        else:
            things[path[0]] = made
    if term[0] == "set" and term[1] == name(word):
        return ("if", things[2], SKIP, SKIP)
    return tuple(things)


def news(one):
    return [at for at in places(one) if part_at(one, at)[0] == "new"]


class Begins(unittest.TestCase):
    def test_by_hand(self):
        for size in (2, 3, 4):
            every = list(range(size))
            for body, wanted in (
                    (("get", B), [0]),
                    (X, every),
                    (("then", ("set", B, X), ("get", B)), every),
                    (("sum", ("get", B), number(0)), [0]),
                    (("if", X, ("get", B), number(0)), [0]),
                    (("then", ("set", B, ("get", B)), X), every),
                    (("same", ("get", B), ("get", B)), every),
                    (("then", ("claim", ("not", ("get", B))), X), [0]),
                    (name("f", B, SKIP), [0]),
                    (("if", number(0), ("get", B), X), every),
                    (("not", ("get", B)), [0])):
                self.assertEqual(begins(piece(new(body), size=size), ()), wanted, body)
        for n in (0, 1, 2):
            self.assertEqual(begins(piece(new(("not", ("get", B)), n=n), size=3), ()), [0] if n == 0 else [1, 2])
            self.assertEqual(begins(piece(new(("below", ("get", B), number(2)), n=n), size=3), ()), [2]
                             if n == 2 else [0, 1])

    def test_at_other_places(self):
        inner = new(("then", ("set", B, X), ("get", B)), n=1)
        one = piece(("sum", new(("get", B)), ("sum", inner, new(("get", name("c")), "c", 1))))
        self.assertEqual(begins(piece=one, at=(1,)), [0])
        self.assertEqual(begins(one, (2, 1)), [0, 1])
        self.assertEqual(begins(one, (2, 2)), [1])

    def test_by_chance(self):
        rng = some(560)
        seen = {}
        for _ in range(300):
            one = random_piece(rng, 5, names=NAMES, size=rng.choice((2, 3)), nodes=4)
            for at in news(one):
                wanted = []
                for n in range(one.size):
                    other = Piece(one.size, NAMES, changed(one.term, at, lambda term: term[:2] + (n,) + term[3:]))
                    if same(other, one):
                        wanted.append(n)
                self.assertEqual(begins(one, at), wanted)
                seen[len(wanted)] = seen.get(len(wanted), 0) + 1
        self.assertGreater(min(seen[1], seen[2], seen[3]), 10)


class IsIdle(unittest.TestCase):
    def test_by_hand(self):
        for body, wanted in (
                (("then", ("set", B, X), X), True),
                (("then", ("set", B, X), ("get", B)), False),
                (("get", B), True),
                (("then", ("set", B, number(0)), ("get", B)), True),
                (("then", ("set", B, number(1)), ("get", B)), False),
                (("then", ("set", B, ("get", B)), ("get", B)), True),
                (name("f", B, ("set", B, X)), False),
                (name("f", V, ("set", B, X)), True),
                (("then", ("get", V) and GO, X), True),
                (("then", ("while", X, ("set", B, ("not", ("get", B)))), ("sum", ("get", B), ("get", B))), True),
                (("then", ("set", B, X), ("then", ("set", B, number(0)), ("get", B))), True),
                (("if", X, ("then", ("set", B, number(1)), ("never", "num")), ("get", B)), True),
                (("then", ("if", X, ("set", B, number(1)), SKIP), ("if", X, ("get", B), number(0))), False)):
            self.assertIs(is_idle(piece(new(body)), ()), wanted, body)

    def test_asked_behind_a_write_alone(self):
        # As the box is written ahead of each get its beginning tells nothing, but it is not idle.
        one = piece(new(("then", ("set", B, number(1)), ("get", B))))
        self.assertEqual((begins(one, ()), is_idle(one, ())), ([0, 1], False))
        one = piece(new(("then", ("set", B, number(1)), ("get", B)), n=1))
        self.assertEqual((begins(one, ()), is_idle(one, ())), ([0, 1], True))

    def test_what_is_set_is_still_worked_out(self):
        one = piece(new(("then", ("set", B, ("sum", X, X)), SKIP)))
        self.assertTrue(is_idle(one, ()))
        self.assertFalse(same(one, piece(SKIP)))
        nested = new(("set", B, ("then", ("set", B, ("then", ("set", B, X), X)), X)))
        self.assertTrue(is_idle(piece=piece(nested), at=()))

    def test_words_that_are_given_again(self):
        inner = new(("then", ("set", B, X), ("get", B)))
        one = piece(new(("then", ("set", B, X), inner)))
        self.assertTrue(is_idle(one, ()))
        self.assertFalse(is_idle(one, (3, 2)))
        made = ("set", ("made", X, "b", ("if", B, SKIP, ("set", V, B))), X)
        self.assertTrue(is_idle(piece(new(made)), ()))
        through = new(("then", ("set", ("made", ("get", B), "n", ("set", B, name("n"))), X), ("get", B)))
        self.assertFalse(is_idle(piece(through), ()))

    def test_by_chance(self):
        rng = some(561)
        seen = {True: 0, False: 0}
        tried = 0
        while tried < 150 or min(seen.values()) < 10:
            tried += 1
            one = random_piece(rng, 6, names={"x": NUM, "go": DO}, size=2, nodes=6)
            for at in news(one):
                word, first, body = part_at(one, at)[1:]
                if "('set', ('name', '" + word not in str(body):
                    continue
                term = changed(one.term, at, lambda term: ("new", word, first, without_sets(body, word)))
                idle = is_idle(one, at)
                self.assertEqual(idle, same(made_piece(2, one.names, term, one.kind), one))
                seen[idle] += 1
                if idle and self.is_in_gets_and_sets_alone(body, word):
                    term = changed(one.term, at, lambda term: without_sets(body, word, first))
                    self.assertTrue(same(made_piece(2, one.names, term, one.kind), one))

    def is_in_gets_and_sets_alone(self, body, word):
        """In pieces without arguments and without words given twice a box stands in gets and sets alone."""
        return str(body).count("'new', '" + word) == 0 and "', '" + word + "', (" not in str(body).replace("('name', '" + word + "', ()", "")

    def test_a_set_that_makes_the_piece_too_great(self):
        term = ("set", B, X)
        for _ in range(5):
            term = ("then", term, term)
        one = made_piece(2, NAMES, new(("then", term, X)), "num")
        self.assertTrue(is_idle(one, ()))


class Errors(unittest.TestCase):
    def test_errors(self):
        one = piece(("sum", new(("get", B)), X))
        for call in (begins, is_idle):
            for thing in ODD_VALUES + [function_of(one)]:
                with self.assertRaises(BadPiece) as caught:
                    call(thing, None)
                self.assertIsNone(caught.exception.part)
            for at in (None, (), (2,), (1, 3), (1, 3, 1), (0,), (3,), [1], "x", 1, (True,), (1, 2), (1, 0)):
                with self.assertRaises(BadPlace):
                    call(one, at)
            great = too_great({"x": NUM})
            with self.assertRaises(TooMany) as caught:
                call(made_piece(2, great.names, new(great.term), "do"), ())
            self.assertEqual(caught.exception.most, 2000)
            with self.assertRaises(BadPlace):
                call(great, ())


if __name__ == "__main__":
    unittest.main()
