"""Point 51: places of pieces, and exchanging the terms that stand there."""

import unittest

from playsalike.errors import BadPiece, BadPlace, BadTerm, TooMany
from playsalike.pieces import Function, Piece, function_of, put
from playsalike.places import exchanged, names_at, part_at, places
from samples import BOX, DO, NUM, ODD_VALUES, SKIP, count_nodes, depth_of, every_place, name, number
from samples import random_term, some

X, V = name("x"), name("v")
NAMES = {"x": NUM, "v": BOX, "f": (("num", "box"), "num")}
TERM = ("new", "b", 0, ("then", ("set", ("made", X, "w", ("claim", name("w"))), X),
                        name("f", ("get", name("b")), V)))
PIECE = Piece(2, NAMES, TERM)
PLACES = [(), (3,), (3, 1), (3, 1, 1), (3, 1, 1, 1), (3, 1, 1, 3), (3, 1, 1, 3, 1), (3, 1, 2),
          (3, 2), (3, 2, 2, 0), (3, 2, 2, 0, 1), (3, 2, 2, 1)]


def chain(inner, many):
    for _ in range(many):
        inner = ("not", inner)
    return inner


class Places(unittest.TestCase):
    def test_places(self):
        self.assertEqual(places(PIECE), PLACES)
        self.assertEqual(places(piece=Piece(2, {}, SKIP)), [()])
        places(PIECE).clear()
        self.assertEqual(len(places(PIECE)), 12)

    def test_part_at(self):
        for at in PLACES:
            thing = TERM
            for index in at:
                thing = thing[index]
            self.assertEqual(part_at(PIECE, at), thing)
            self.assertEqual(part_at(piece=PIECE, at=at), thing)

    def test_names_at(self):
        within = {**NAMES, "b": BOX}
        for at in PLACES:
            wanted = NAMES if at == () else {**within, "w": NUM} if at[:4] == (3, 1, 1, 3) else within
            self.assertEqual(list(names_at(PIECE, at).items()), sorted(wanted.items()))
        self.assertEqual(names_at(piece=PIECE, at=()), NAMES)
        names_at(PIECE, ())["q"] = NUM
        self.assertEqual(PIECE.names, NAMES)

    def test_names_that_are_hidden(self):
        piece = Piece(2, NAMES, ("new", "x", 0, ("get", ("made", ("get", X), "f", ("new", "f", 1, ("set", name("f"), (
            "get", X)))))))
        self.assertEqual(names_at(piece, (3, 1, 1)), {**NAMES, "x": BOX})
        self.assertEqual(names_at(piece, (3, 1, 3)), {**NAMES, "x": BOX, "f": NUM})
        self.assertEqual(names_at(piece, (3, 1, 3, 3)), {**NAMES, "x": BOX, "f": BOX})

    def test_more_than_four_words(self):
        term = name("z")
        for word in "abcd":
            term = ("new", word, 0, term)
        piece = Piece(2, {"x": NUM, "z": NUM}, term)
        self.assertEqual(list(names_at(piece, (3,) * 4)), ["a", "b", "c", "d", "x", "z"])
        made = exchanged(piece, (3,) * 4, ("sum", ("get", name("a")), ("sum", ("get", name("d")), X)))
        self.assertEqual(part_at(made, (3,) * 4 + (2, 1)), ("get", name("d")))

    def test_no_places(self):
        wrong = [None, 0, "", [], [3], (0,), (1,), (2,), (3, 0), (3, 3), (3, 2, 0), (3, 2, 1), (3, 2, 2), (3, 2, 2, 2),
                 (3, 2, 2, -1), (-1,), (3, -1), (3.0,), (3, True), (3, 1, True), ("3",), (None,), ((3,),), (3, 1, 1, 2),
                 (3, 2, 2, 1, 1), (3, 2, 2, False), (3, 2, 2, 1, 2, 0), (2, 2, 0), (3, 2, (2, 0)), {}, (3, [1])]
        for at in wrong:
            for call in (part_at, names_at, lambda piece, place: exchanged(piece, place, None)):
                with self.assertRaises(BadPlace):
                    call(PIECE, at)

    def test_no_pieces(self):
        for thing in ODD_VALUES + [function_of(PIECE)]:
            for call in (places, lambda one: part_at(one, None), lambda one: names_at(one, None),
                         lambda one: exchanged(one, None, None)):
                with self.assertRaises(BadPiece) as caught:
                    call(thing)
                self.assertIsNone(caught.exception.part)

    def test_exchanged(self):
        self.assertEqual(exchanged(PIECE, (), X), Piece(2, NAMES, X))
        self.assertEqual(exchanged(PIECE, (3, 2, 2, 1), name("b")).term,
                         ("new", "b", 0, ("then", TERM[3][1], name("f", ("get", name("b")), name("b")))))
        self.assertEqual(exchanged(piece=PIECE, at=(3, 1, 1, 3, 1), term=("not", name("w"))).term[3][1][1][3],
                         ("claim", ("not", name("w"))))
        self.assertEqual(exchanged(PIECE, (3, 1, 1), V).term[3][1], ("set", V, X))
        self.assertEqual(exchanged(PIECE, (3,), ("get", name("b"))).term, ("new", "b", 0, ("get", name("b"))))
        self.assertEqual(PIECE, Piece(2, NAMES, TERM))

    def test_terms_are_judged_by_themselves(self):
        cases = [((), None, ()), ((), name("b"), ()), ((), ("sum", X, name("w")), (2,)), ((3, 1, 2), name("w"), ()),
                 ((3,), ("not", SKIP), (1,)), ((3,), number(2), ()), ((3,), ("get", X), (1,)),
                 ((), chain(X, 12), (1,) * 12), ((), ["skip"], ())]
        for at, term, wrong in cases:
            with self.assertRaises(BadTerm) as caught:
                exchanged(PIECE, at, term)
            self.assertEqual(caught.exception.at, wrong)

    def test_another_sort(self):
        for at in PLACES:
            part = part_at(PIECE, at)
            sort = {"set": "do", "claim": "do", "made": "box"}.get(part[0], "num")
            sort = "box" if part == V or part == name("b") else sort
            for term, given in ((X, "num"), (SKIP, "do"), (V, "box"), (("never", "do"), "do"), (("never", "num"), "num")):
                if sort == given:
                    self.assertEqual(part_at(exchanged(PIECE, at, term), at), term)
                    continue
                with self.assertRaises(BadPiece) as caught:
                    exchanged(PIECE, at, term)
                self.assertEqual(caught.exception.part, "sort")

    def test_plain_sorts_of_all_parts(self):
        go = name("go")
        terms = {"num": [("never", "num"), ("then", go, X), ("if", X, X, X), ("new", "x", 0, ("get", X)), ("not", X),
                         ("new", "go", 0, ("then", SKIP, ("if", X, ("never", "num"), X))), ("get", V), ("less", X, X)],
                 "do": [("never", "do"), ("then", go, go), ("if", X, go, go), ("new", "v", 1, ("set", V, X)), go,
                        ("while", X, go), ("claim", X), SKIP]}
        for sort, right in terms.items():
            for term in right:
                piece = Piece(2, {"go": DO, "x": NUM, "v": BOX}, term)
                self.assertEqual(exchanged(piece, (), right[0]).term, right[0])
                with self.assertRaises(BadPiece):
                    exchanged(piece, (), terms["do" if sort == "num" else "num"][0])

    def test_too_many(self):
        piece = Piece(2, {"x": NUM}, ("sum", chain(X, 10), X))
        self.assertEqual(depth_of(exchanged(piece, (1,), chain(X, 10)).term), 12)
        for at, most in (((1,), 12), ((2,), 12)):
            with self.assertRaises(TooMany) as caught:
                exchanged(piece, at, chain(X, 11))
            self.assertEqual(caught.exception.most, most)
        wide = ("sum", ("sum", chain(X, 9), chain(X, 9)), ("sum", chain(X, 9), chain(X, 9)))
        piece = Piece(2, {"x": NUM}, wide)
        ten = ("sum", chain(X, 8), chain(X, 8))
        self.assertEqual(count_nodes(exchanged(piece, (1, 1), ten).term), 52)
        more = ("sum", chain(X, 8), ("sum", chain(X, 7), chain(X, 7)))
        self.assertEqual(count_nodes(more), 27)
        made = exchanged(piece, (1, 1), more)
        self.assertEqual(count_nodes(made.term), 60)
        with self.assertRaises(TooMany) as caught:
            exchanged(made, (1, 2), ("not", part_at(made, (1, 2))))
        self.assertEqual(caught.exception.most, 60)
        with self.assertRaises(TooMany) as caught:
            exchanged(made, (1, 2), chain(X, 11))
        self.assertEqual(caught.exception.most, 60)

    def test_pieces_that_put_makes(self):
        piece = Piece(2, {"x": NUM}, chain(X, 11))
        for _ in range(5):
            piece = put(piece, "x", function_of(piece))
        self.assertEqual(len(places(piece)), 11 * 32 + 1)
        self.assertEqual(part_at(piece, (1,) * 352), X)
        self.assertEqual(exchanged(piece, (1, 1), X), Piece(2, {"x": NUM}, chain(X, 2)))
        with self.assertRaises(TooMany):
            exchanged(piece, (1,) * 352, number(1))

    def test_random_pieces(self):
        rng = some(51)
        tried = 0
        while tried < 200:
            term = random_term(rng, 3, {**NAMES, "go": DO}, rng.choice(("num", "do")), 6)
            if count_nodes(term) > 60 or depth_of(term) > 12:
                continue
            tried += 1
            piece = Piece(3, {**NAMES, "go": DO}, term)
            self.assertEqual(places(piece), sorted(every_place(term)))
            for at in places(piece):
                self.assertEqual(exchanged(piece, at, part_at(piece, at)), piece)
        self.assertIsInstance(Function(3, {}, (), SKIP), Function)


if __name__ == "__main__":
    unittest.main()
