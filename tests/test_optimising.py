"""Point 55: the optimiser: first shortenings, one after the other, each one judged."""

import unittest

from meanings import random_names, random_piece
from playsalike.alike import same
from playsalike.errors import BadPiece, TooMany
from playsalike.optimising import optimised, shortening
from playsalike.pieces import Function, Piece, function_of, put
from playsalike.places import exchanged, names_at, part_at, places
from samples import (BOX, DO, NUM, ODD_VALUES, SKIP, count_nodes, every_place, name, number, some, too_great)
from termparts import free_uses, own_at, sort_in

X, Y, V, GO, B = name("x"), name("y"), name("v"), name("go"), name("b")
NAMES = {"x": NUM, "y": NUM, "v": BOX, "go": DO}


def piece(term, names=None, size=2):
    return Piece(size, NAMES if names is None else names, term)


def by_hand(one):
    """The first shortening, by trying all terms that the document tells, in its sequence."""
    for at in sorted(every_place(one.term)):
        part = part_at(one, at)
        sort = sort_in(names_at(one, at), part)
        if sort == "box":
            continue
        terms = [SKIP] if sort == "do" else [number(n) for n in range(one.size)]
        terms.append(("never", sort))
        around = own_at(one, at)
        for inner in sorted(every_place(part))[1:]:
            term = part_at(one, at + inner)
            own = own_at(one, at + inner)[len(around):]
            if sort_in(names_at(one, at + inner), term) == sort and not any(use[1] in own for use in free_uses(term)):
                terms.append(term)
        for term in terms:
            if count_nodes(term) < count_nodes(part) and same(exchanged(one, at, term), one):
                return (at, term)
    return None


class Shortening(unittest.TestCase):
    def test_by_hand(self):
        for term, wanted in (
                (("sum", X, number(0)), ((), X)),
                (("sum", number(0), X), ((), X)),
                (("sum", X, X), None),
                (X, None),
                (("not", ("not", X)), ((), X)),
                (("sum", number(1), number(1)), ((), number(0))),
                (SKIP, None),
                (("then", GO, ("never", "num")), ((), ("never", "num"))),
                (("while", number(1), GO), ((), ("never", "do"))),
                (("while", number(0), GO), ((), SKIP)),
                (("then", SKIP, GO), ((), GO)),
                (("then", GO, SKIP), ((), GO)),
                (("then", ("then", GO, GO), SKIP), ((), ("then", GO, GO))),
                (("claim", number(1)), ((), SKIP)),
                (("claim", number(0)), None),
                (("claim", ("not", ("not", X))), ((1,), X)),
                (("new", "b", 1, ("sum", X, ("get", B))), ((3, 2), number(1))),
                (("new", "b", 0, ("then", ("set", B, X), ("get", B))), ((), X)),
                (("new", "b", 0, ("then", ("set", B, X), ("if", Y, ("get", B), number(0)))), None),
                (("new", "b", 0, ("then", ("set", B, number(1)), X)), ((), X)),
                (("get", ("made", X, "n", GO)), ((), X)),
                (("less", X, ("sum", number(1), number(1))), ((), X)),
                (("if", X, ("then", GO, SKIP), ("then", SKIP, GO)), ((2,), GO)),
                (("set", V, ("if", number(1), X, number(0))), ((2,), X)),
                (("set", ("made", X, "n", ("set", V, name("n"))), X), None)):
            with self.subTest(term=term):
                self.assertEqual(shortening(piece(term)), wanted)

    def test_sequence(self):
        # Both parts would do: the first one by its place; numbers ahead of never ahead of parts.
        self.assertEqual(shortening(piece(("if", X, ("if", number(1), GO, SKIP), ("if", number(0), SKIP, GO)))),
                         ((2,), GO))
        self.assertEqual(shortening(piece(("then", GO, ("then", ("never", "do"), GO)))), ((), ("never", "do")))
        self.assertEqual(shortening(piece(("sum", number(1), number(1)), size=3)), ((), number(2)))
        self.assertEqual(shortening(piece(("then", ("while", number(0), GO), ("while", number(0), GO)))), ((), SKIP))

    def test_words_given_within_are_not_carried_out(self):
        term = ("new", "b", 1, ("if", ("get", B), ("get", B), number(0)))
        self.assertEqual(shortening(piece(term)), ((), number(1)))
        # Outside this word would be that of another box.
        term = ("new", "x", 0, ("then", ("set", X, Y), ("if", Y, ("get", X), number(0))))
        self.assertIsNone(shortening(piece(term, {"y": NUM, "x": BOX})))
        term = ("new", "x", 0, ("then", ("set", X, number(1)), ("sum", ("get", X), Y)))
        self.assertEqual(shortening(piece(term, {"y": NUM, "x": BOX})), ((3, 2, 1), number(1)))

    def test_against_all_that_may_be_tried(self):
        rng = some(550)
        seen = {True: 0, False: 0}
        for turn in range(300):
            one = random_piece(rng, 2 + turn % 3, size=rng.choice((2, 2, 3)), nodes=3, most=2)
            found = shortening(piece=one)
            self.assertEqual(found, by_hand(one))
            seen[found is None] += 1
        self.assertGreater(min(seen.values()), 10)


class Optimised(unittest.TestCase):
    def test_by_hand(self):
        term = ("then", ("then", SKIP, GO), ("sum", ("sum", X, number(0)), ("not", number(0))))
        made, steps = optimised(piece(term))
        self.assertEqual(steps, [((1,), GO), ((2, 1), X), ((2, 2), number(1))])
        self.assertEqual(made, piece(("then", GO, ("sum", X, number(1)))))
        self.assertEqual(optimised(piece(X)), (piece(X), []))
        self.assertEqual(optimised(piece(("while", X, GO))), (piece(("while", X, GO)), []))

    def test_the_whole_list_of_steps(self):
        rng = some(551)
        longest = 0
        for _ in range(80):
            one = random_piece(rng, 5, size=2, nodes=6, most=2)
            made, steps = optimised(piece=one)
            walked = one
            for step in steps:
                self.assertEqual(step, shortening(walked))
                walked = exchanged(walked, *step)
            self.assertEqual(walked, made)
            self.assertIsNone(shortening(made))
            self.assertTrue(same(made, one))
            longest = max(longest, len(steps))
        self.assertGreater(longest, 3)

    def test_great_pieces(self):
        rng = some(552)
        for _ in range(8):
            one = random_piece(rng, 7, size=2, nodes=30, names=random_names(rng, 2))
            made, _ = optimised(one)
            self.assertTrue(same(made, one))
            self.assertLessEqual(count_nodes(made.term), count_nodes(one.term))
        chain = ("not", ("not", ("not", ("not", X))))
        one = piece(chain, {"x": NUM})
        for _ in range(3):
            one = put(one, "x", function_of(one))
        self.assertEqual(len(places(one)), 33)
        self.assertEqual(optimised(one)[0].term, X)

    def test_errors(self):
        for thing in ODD_VALUES + [function_of(piece(X)), Function(2, {}, (), SKIP)]:
            for call in (shortening, optimised):
                with self.assertRaises(BadPiece) as caught:
                    call(thing)
                self.assertIsNone(caught.exception.part)
        for call in (shortening, optimised):
            with self.assertRaises(TooMany) as caught:
                call(too_great({"x": NUM}))
            self.assertEqual(caught.exception.most, 2000)


if __name__ == "__main__":
    unittest.main()
