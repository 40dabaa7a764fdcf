"""Point 94: questions about the entries of books."""

import unittest

from libraries import INC, UNARY, fun, random_book
from playsalike.alike import less, same
from playsalike.books import Book
from playsalike.claims import is_safe
from playsalike.errors import BadBook, BadQuestion, TooMany
from playsalike.evaluating import evaluated
from playsalike.links import linked
from playsalike.outcomes import outcome
from playsalike.pieces import Piece
from playsalike.questions import answered, is_question
from samples import DO, NUM, ODD_VALUES, SKIP, name, number, some

X, P, Q = name("x"), name("p"), name("q")
HARD = ("never", "num")
PARAM = (("p", "num"),)

BOOK = Book(2, (
    ("a", fun(name("inc", number(1)), {"inc": UNARY})),
    ("b", fun(number(0))),
    ("c", fun(HARD)),
    ("d", fun(("then", ("claim", number(0)), number(0)))),
    ("inc", INC),
    ("keep", fun(P, {}, PARAM)),
))
OPEN = Book(2, (
    ("a", fun(("sum", X, number(0)), {"x": NUM})),
    ("b", fun(X, {"x": NUM})),
    ("c", fun(("then", ("claim", X), number(1)), {"x": NUM})),
    ("go", fun(("while", X, SKIP), {"x": NUM})),
    ("inc", fun(P, {}, PARAM)),
    ("other", fun(Q, {}, (("q", "num"),))),
))


class IsQuestion(unittest.TestCase):
    def test_is_question(self):
        for thing in (("same", "a", "b"), ("less", "a", "a"), ("holds", "x"), ("ends", "abcdefgh"),
                      ("same", "same", "less")):
            self.assertIs(is_question(thing=thing), True)
        for thing in ODD_VALUES + [("same", "a"), ("same", "a", "b", "c"), ("holds", "a", "b"), ("ends",),
                                   ("less", "a", 1), ("more", "a", "b"),
                                   ["same", "a", "b"], ("same", ["a"], "b"), ("holds", ""), ("holds", "A"),
                                   ("ends", "abcdefghi"), ("ends", None),
                                   (["same"], "a", "b"), ("same", "a", "B"), (None, "a"), ((), "a"), "same",
                                   ("same a b",)]:
            self.assertIs(is_question(thing), False)


class Answered(unittest.TestCase):
    def check(self, book, table):
        for question, wanted in table:
            found = answered(book=book, question=question)
            self.assertEqual((found, found is True or found is False), (wanted, wanted is True or wanted is False),
                             question)

    def test_whole_entries(self):
        self.check(BOOK, [
            (("same", "a", "b"), True), (("same", "a", "c"), False), (("less", "c", "a"), True),
                          (("less", "a", "c"), False),
            (("less", "a", "b"), True), (("same", "d", "b"), False), (("same", "a", "a"), True),
                          (("less", "inc", "keep"), False),
            (("same", "inc", "keep"), False), (("same", "keep", "keep"), True), (("same", "a", "inc"), "other"),
                          (("less", "keep", "b"), "other"),
            (("holds", "a"), True), (("holds", "d"), False), (("holds", "keep"), True), (("ends", "a"), ("num", 0)),
                          (("ends", "b"), ("num", 0)),
            (("ends", "c"), ("on", 0)), (("ends", "d"), ("broken", 0)), (("ends", "inc"), "other"),
                          (("ends", "keep"), "other")])

    def test_open_entries(self):
        self.check(OPEN, [
            (("same", "a", "b"), True), (("same", "a", "c"), False), (("less", "c", "b"), False),
                          (("holds", "c"), False), (("holds", "a"), True),
            (("same", "a", "go"), "other"), (("less", "go", "b"), "other"), (("same", "inc", "other"), "other"),
                          (("same", "a", "inc"), "other"),
            (("ends", "a"), "other"), (("ends", "go"), "other"), (("less", "inc", "inc"), True)])

    def test_words_that_are_no_entries(self):
        self.check(BOOK, [(("same", "a", "z"), "lacks"), (("same", "z", "a"), "lacks"), (("less", "z", "y"), "lacks"),
                          (("holds", "z"), "lacks"),
                          (("ends", "p"), "lacks"), (("same", "inc", "z"), "lacks")])
        self.check(OPEN, [(("ends", "x"), "lacks"), (("holds", "x"), "lacks")])
        self.check(Book(2, ()), [(("ends", "a"), "lacks"), (("same", "a", "a"), "lacks")])

    def test_by_chance(self):
        rng = some(940)
        seen = {}
        for _ in range(60):
            book = random_book(rng)
            entries = dict(book.entries)
            pieces = {word: linked(book, word) for word in entries}
            for word in "abcd":
                found = answered(book, ("ends", word))
                self.assertEqual(found, "other" if pieces[word].names else outcome(pieces[word]))
                self.assertIs(answered(book, ("holds", word)), is_safe(pieces[word]))
                for other in "abcd":
                    alike = entries[word].params == entries[other].params and entries[word].kind == entries[other].kind
                    told = answered(book, ("same", word, other)), answered(book, ("less", word, other))
                    wanted = ("other", "other")
                    if alike:
                        wanted = same(pieces[word], pieces[other]), less(pieces[word], pieces[other])
                    self.assertEqual(told, wanted)
                    seen[told] = seen.get(told, 0) + 1
        self.assertGreater(min(seen[("other", "other")], seen[(False, False)], seen[(False, True)], seen[(True, True)]),
                           5)

    def test_ends_beside_evaluated(self):
        rng = some(941)
        seen = {}
        while len(seen) < 4 or min(seen.values()) < 4:
            book = random_book(rng)
            for word, _ in book.entries:
                try:
                    piece = linked(book, word)
                except TooMany:
                    continue
                if piece.names:
                    continue
                found = answered(book, ("ends", word))
                for steps in (10, 1000, 20000):
                    told = evaluated(piece, steps)[:2]
                    self.assertTrue(told == found or told == ("on", 0))
                self.assertEqual(told, found)
                seen[found[0]] = seen.get(found[0], 0) + 1

    def test_linking_comes_ahead(self):
        wide = P
        for _ in range(4):
            wide = ("sum", wide, wide)
        book = Book(2, (("a", fun(name("b", name("b", X)), {"b": UNARY, "x": NUM})), ("b", fun(wide, {}, PARAM)),
                        ("c", fun(X, {"x": NUM}))))
        for question in (("ends", "a"), ("holds", "a"), ("same", "a", "c"), ("less", "c", "a")):
            with self.assertRaises(TooMany) as caught:
                answered(book, question)
            self.assertEqual(caught.exception.most, 60)
        self.check(book, [(("same", "a", "b"), "other"), (("same", "a", "z"), "lacks"), (("ends", "c"), "other")])

    def test_errors_in_their_sequence(self):
        for thing in ODD_VALUES + [Piece(2, {}, SKIP), BOOK.entries]:
            with self.assertRaises(BadBook) as caught:
                answered(thing, None)
            self.assertIsNone(caught.exception.part)
        for thing in ODD_VALUES + [("same", "a"), ["ends", "a"], ("ends", "A")]:
            with self.assertRaises(BadQuestion):
                answered(BOOK, thing)
        self.assertEqual(fun(SKIP).kind, DO)


if __name__ == "__main__":
    unittest.main()
