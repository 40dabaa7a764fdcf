"""Point 53: names that are never asked, and places where it makes no difference what stands."""

import unittest

from meanings import random_names, random_piece
from playsalike.alike import same
from playsalike.dead import dead_places, unasked
from playsalike.errors import BadPiece, TooMany
from playsalike.pieces import Function, Piece, free_names, function_of, made_piece, put
from playsalike.places import exchanged, names_at, part_at
from playsalike.plays import plays_up_to
from samples import BOX, DO, NUM, ODD_VALUES, SKIP, every_place, name, number, some, too_great
from termparts import free_uses, own_at, sort_in

X, Y, V, GO, B = name("x"), name("y"), name("v"), name("go"), name("b")
NAMES = {"x": NUM, "v": BOX, "go": DO}


def piece(term, names=None, size=2):
    return Piece(size, NAMES if names is None else names, term)


class Unasked(unittest.TestCase):
    def test_by_hand(self):
        self.assertEqual(unasked(piece(X)), ["go", "v"])
        self.assertEqual(unasked(piece(("then", GO, ("get", V)))), ["x"])
        self.assertEqual(unasked(piece(("if", number(0), X, number(1)))), ["go", "v", "x"])
        self.assertEqual(unasked(piece(("then", X and GO, ("never", "num")))), ["go", "v", "x"])
        self.assertEqual(unasked(piece(("then", GO, ("claim", number(0))))), ["v", "x"])
        self.assertEqual(unasked(piece(("claim", X))), ["go", "v"])
        self.assertEqual(unasked(piece=piece(name("f", X), {"f": (("num",), "num"), "x": NUM})), [])
        self.assertEqual(unasked(Piece(2, {}, SKIP)), [])
        names = {word: NUM for word in "abcd"}
        self.assertEqual(unasked(piece(("then", ("while", name("a"), SKIP), name("c")), names)), ["b", "d"])

    def test_by_chance(self):
        rng = some(530)
        seen = {True: 0, False: 0}
        for _ in range(150):
            one = random_piece(rng, 4, most=2, size=2, nodes=3)
            found = unasked(one)
            for word in one.names:
                sort = one.names[word]
                box = sort == BOX
                never = ("made", ("never", "num"), "n", ("never", "do")) if box else ("never", sort[1])
                function = Function(2, {}, tuple(zip("pqr", sort[0])), never)
                given = put(one, word, function)
                self.assertEqual(word in found, same(made_piece(2, one.names, given.term, one.kind), one))
                self.assertTrue(word in found or word in free_names(one))
                seen[word in found] += 1
            try:
                rows = plays_up_to(one, 12)
            except TooMany:
                continue
            asked = {move[1] for row in rows for move in row if len(move) > 1 and isinstance(move[1], str)}
            self.assertFalse(asked & set(found))
        self.assertGreater(min(seen.values()), 20)


class DeadPlaces(unittest.TestCase):
    def test_by_hand(self):
        self.assertEqual(dead_places(piece(("if", number(1), X, GO and ("get", V)))), [(3,)])
        self.assertEqual(dead_places(piece(("then", ("never", "do"), X))), [(2,)])
        self.assertEqual(dead_places(piece(("while", number(1), ("then", GO, GO)))), [(2,), (2, 1), (2, 2)])
        self.assertEqual(dead_places(piece(("while", X, GO))), [])
        self.assertEqual(dead_places(piece(("while", X, ("never", "do")))), [])
        self.assertEqual(dead_places(piece(("then", ("while", X, ("never", "do")), GO))), [])
        self.assertEqual(dead_places(piece(("never", "num"))), [])
        self.assertEqual(dead_places(piece(("then", ("if", X, GO, SKIP), ("never", "num")))), [(1,), (1, 1), (1, 2),
                                                                                               (1, 3)])
        self.assertEqual(dead_places(piece(("new", "b", 1, ("if", ("get", B), X, ("sum", X, X))))),
                         [(3, 3), (3, 3, 1), (3, 3, 2)])
        # In an argument that may never be asked it is asked in some program.
        self.assertEqual(dead_places(piece(name("f", X), {"f": (("num",), "num"), "x": NUM})), [])
        self.assertEqual(dead_places(piece=piece(("get", ("made", X, "n", GO)))), [(1, 3)])

    def test_parts_that_are_not_plain(self):
        dead = ("then", ("claim", X), SKIP)
        self.assertEqual(dead_places(piece(("if", number(1), GO, dead))), [(3, 1, 1), (3, 2)])
        own = ("if", ("get", B), X, number(0))
        self.assertEqual(dead_places(piece(("new", "b", 0, ("if", number(1), X, own)))), [(3, 3, 2), (3, 3, 3)])
        inner = ("new", "c", 0, ("get", name("c")))
        self.assertEqual(dead_places(piece(("new", "b", 0, ("if", number(1), X, inner)))), [(3, 3)])
        shadow = ("new", "x", 0, ("if", number(1), ("get", X), ("get", X)))
        self.assertEqual(dead_places(piece(shadow, {"x": NUM})), [])
        self.assertEqual(dead_places(piece(("if", number(1), SKIP, ("set", V, X)))), [(3,), (3, 2)])

    def test_words_that_are_taken(self):
        names = {"a": NUM, "c": BOX}
        term = ("new", "b", 0, ("if", ("get", B), ("new", "d", 1, name("a")), ("get", name("c"))))
        self.assertEqual(dead_places(piece(term, names)), [(3, 2), (3, 2, 3)])

    def test_by_chance(self):
        rng = some(531)
        seen = {True: 0, False: 0}
        for _ in range(120):
            names = {word: sort for word, sort in random_names(rng, 2).items()}
            one = random_piece(rng, 5, size=2, nodes=6, names=names, claims=rng.random() < 0.3)
            found = dead_places(one)
            self.assertEqual(found, sorted(found))
            for at in every_place(one.term):
                part, there = part_at(one, at), names_at(one, at)
                sort = sort_in(there, part)
                if sort == "box" or "claim" in str(part) or any(use[1] in own_at(one, at) for use in free_uses(part)):
                    self.assertNotIn(at, found)
                    continue
                wide = Piece(2, {**names, "zzz": ((), sort)}, one.term)
                never, asks = (exchanged(wide, at, term) for term in (("never", sort), name("zzz")))
                self.assertEqual(at in found, same(never, asks))
                if at in found:
                    for other in self.plain_terms(names, sort, own_at(one, at)):
                        self.assertTrue(same(exchanged(one, at, other), one))
                seen[at in found] += 1
        self.assertGreater(min(seen.values()), 100)

    def plain_terms(self, names, sort, own):
        found = [("never", sort)]
        found += [number(0), number(1)] if sort == "num" else [SKIP, ("while", number(1), SKIP)]
        return found + [name(word) for word, told in names.items() if told == ((), sort) and word not in own]

    def test_four_names(self):
        names = {word: NUM for word in "abcd"}
        one = Piece(2, names, name("a"))
        with self.assertRaises(TooMany) as caught:
            dead_places(one)
        self.assertEqual(caught.exception.most, 4)
        self.assertEqual(dead_places(Piece(2, {word: NUM for word in "abc"}, ("if", number(1), name("a"), name("b")))),
                         [(3,)])
        self.assertEqual(unasked(one), ["b", "c", "d"])

    def test_places_of_pieces_made_by_put(self):
        one = put(piece(("sum", X, X), {"x": NUM}), "x", function_of(piece(("if", number(1), X, Y),
                                                                           {"x": NUM, "y": NUM})))
        self.assertEqual(dead_places(one), [(1, 3), (2, 3)])

    def test_errors(self):
        for thing in ODD_VALUES + [function_of(piece(X))]:
            for call in (unasked, dead_places):
                with self.assertRaises(BadPiece) as caught:
                    call(thing)
                self.assertIsNone(caught.exception.part)
        for call in (unasked, dead_places):
            with self.assertRaises(TooMany) as caught:
                call(too_great({"x": NUM}))
            self.assertEqual(caught.exception.most, 2000)


if __name__ == "__main__":
    unittest.main()
