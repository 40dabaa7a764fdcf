"""Point 91: entries of books as pieces, open and linked."""

import unittest

from libraries import INC, TWICE, UNARY, fun
from playsalike.books import Book, open_names
from playsalike.errors import BadBook, BadWord, TooMany
from playsalike.evaluating import evaluated
from playsalike.links import linked, open_piece
from playsalike.pieces import Function, Piece, function_of, put
from samples import BOX, DO, NUM, ODD_VALUES, count_nodes, leveled, name, number, put_by_tags
from samples import random_term, some

BOOK = Book(2, (("inc", INC), ("twice", TWICE)))


def chain(inner, many):
    for _ in range(many):
        inner = ("not", inner)
    return inner


class Links(unittest.TestCase):
    def test_example_by_hand(self):
        piece = linked(BOOK, "twice")
        self.assertEqual(piece, Piece(2, {}, ("sum", ("sum", number(1), number(1)), number(1))))
        self.assertEqual(evaluated(piece, 100)[:2], ("num", 1))
        self.assertEqual(linked(book=BOOK, word="inc"), Piece(2, {"p": NUM}, ("sum", name("p"), number(1))))

    def test_open_pieces(self):
        self.assertEqual(open_piece(BOOK, "twice"), Piece(2, {"inc": UNARY}, TWICE.term))
        self.assertEqual(open_piece(book=BOOK, word="inc"), Piece(2, {"p": NUM}, INC.term))
        book = Book(2, (("a", fun(name("b", name("x")), {"b": UNARY, "x": NUM})),
                        ("b", fun(name("q"), {"z": BOX}, (("q", "num"),)))))
        self.assertEqual(list(open_piece(book, "a").names.items()), [("b", UNARY), ("x", NUM), ("z", BOX)])
        self.assertEqual(list(open_piece(book, "b").names.items()), [("q", NUM), ("x", NUM), ("z", BOX)])
        self.assertEqual(linked(book, "a"), Piece(2, {"x": NUM, "z": BOX}, name("x")))
        self.assertEqual(linked(book, "b"), Piece(2, {"x": NUM, "z": BOX, "q": NUM}, name("q")))

    def test_parameters_are_names_of_their_plain_sorts(self):
        params = (("p", "box"), ("q", "do"))
        book = Book(2, (("a", fun(("then", name("q"), ("get", name("p"))), {}, params)),))
        wanted = Piece(2, {"p": BOX, "q": DO}, ("then", name("q"), ("get", name("p"))))
        self.assertEqual(open_piece(book, "a"), wanted)
        self.assertEqual(linked(book, "a"), wanted)

    def test_entries_that_are_put_in_one_through_another(self):
        book = Book(4, (("a", fun(("sum", name("b"), name("c")), {"b": NUM, "c": NUM}, (), 4)),
                        ("b", fun(("sum", name("c"), number(1)), {"c": NUM}, (), 4)),
                        ("c", fun(("sum", name("d"), name("x")), {"d": NUM, "x": NUM}, (), 4)),
                        ("d", fun(number(2), {}, (), 4))))
        c = ("sum", number(2), name("x"))
        self.assertEqual(linked(book, "a").term, ("sum", ("sum", c, number(1)), c))
        self.assertEqual(linked(book, "a").names, {"x": NUM})

    def test_words_that_meet(self):
        book = Book(2, (("a", fun(("new", "x", 0, ("sum", ("get", name("x")), name("b"))), {"b": NUM})),
                        ("b", fun(name("x"), {"x": NUM}))))
        self.assertEqual(leveled(linked(book, "a").term), leveled(
            ("new", "y", 0, ("sum", ("get", name("y")), name("x")))))

    def test_too_many(self):
        book = Book(2, (("a", fun(chain(name("b"), 6), {"b": NUM})), ("b", fun(chain(number(0), 6)))))
        with self.assertRaises(TooMany) as caught:
            linked(book, "a")
        self.assertEqual(caught.exception.most, 12)
        book = Book(2, (("a", fun(name("f", name("f", name("f", name("f", name("f", name("f", number(1))))))),
                                  {"f": UNARY})), ("f", fun(("sum", name("p"), name("p")), {}, (("p", "num"),)))))
        with self.assertRaises(TooMany) as caught:
            linked(book, "a")
        self.assertEqual(caught.exception.most, 60)
        self.assertEqual(open_piece(book, "a").names, {"f": UNARY})
        unused = Book(2, (("a", fun(number(1), {"b": NUM})),
                          ("b", fun(name("c", chain(number(0), 3)), {"c": UNARY})),
                          ("c", fun(chain(name("p"), 10), {}, (("p", "num"),)))))
        with self.assertRaises(TooMany):
            linked(unused, "a")

    def test_errors_in_their_sequence(self):
        for call in (open_piece, linked):
            for thing in ODD_VALUES + [INC, BOOK.entries]:
                with self.assertRaises(BadBook) as caught:
                    call(thing, None)
                self.assertIsNone(caught.exception.part)
            for word in ("p", "x", "", None, ["inc"], ("inc",), 0, {"inc": 1}, "INC"):
                with self.assertRaises(BadWord):
                    call(BOOK, word)

    def test_functions_that_put_makes(self):
        piece = Piece(2, {"x": NUM}, ("sum", name("x"), name("x")))
        for _ in range(5):
            piece = put(piece, "x", Function(2, {"x": NUM}, (), ("sum", name("x"), name("x"))))
        book = Book(2, (("a", function_of(piece)),))
        self.assertEqual(open_piece(book, "a"), piece)
        self.assertEqual(linked(book, "a"), piece)

    def test_random_books_against_putting_in_another_sequence(self):
        rng = some(91)
        tried = 0
        while tried < 150:
            table = random_entries(rng)
            if max(count_nodes(one.term) for one in table.values()) > 60:
                continue
            tried += 1
            book = Book(2, tuple(sorted(table.items())))
            for word in table:
                try:
                    piece = linked(book, word)
                except TooMany:
                    continue
                start = Piece(2, {**open_names(book), **open_piece(book, word).names}, table[word].term)
                self.assertEqual(leveled(piece.term), last_first(start, table))
                params = {param: ((), plain) for param, plain in table[word].params}
                self.assertEqual(list(piece.names.items()), sorted({**open_names(book), **params}.items()))
                self.assertEqual(Piece(2, piece.names, piece.term), piece)


def random_entries(rng):
    """Entries a, b and c: a may use b and c, b may use c; x is open."""
    c = fun(random_term(rng, 2, {"x": NUM, "p": NUM}, "num", 3), {"x": NUM}, (("p", "num"),))
    b_names = {"c": UNARY, "x": NUM}
    b = fun(random_term(rng, 2, {**b_names, "q": DO}, "do", 3), b_names, (("q", "do"),))
    a_names = {"b": (("do",), "do"), "c": UNARY, "x": NUM}
    a = fun(random_term(rng, 2, a_names, "num", 4), a_names)
    return {"a": a, "b": b, "c": c}


def last_first(piece, table):
    """The linked term, by levels: uses of open entries are put in from a to c, outermost first."""
    for word in ("b", "c"):
        if word in piece.names:
            term = put_by_tags(piece, {word: table[word]})
            made = put(piece, word, table[word])
            assert leveled(made.term) == term
            piece = made
    return leveled(piece.term)


if __name__ == "__main__":
    unittest.main()
