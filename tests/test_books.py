"""Point 90: books of entries."""

import unittest

from libraries import INC, TWICE, UNARY, fun, use
from playsalike.books import Book, open_names, uses
from playsalike.errors import BadBook, BadNumber, BadWord
from playsalike.pieces import Function, Piece, put
from samples import BOX, DO, NUM, ODD_VALUES, SKIP, name, number, some


class Books(unittest.TestCase):
    def check_part(self, part, entries, size=2):
        with self.assertRaises(BadBook) as caught:
            Book(size, entries)
        self.assertEqual(caught.exception.part, part, entries)

    def test_attributes(self):
        entries = (("inc", INC), ("twice", TWICE))
        book = Book(2, entries)
        self.assertEqual((book.size, book.entries), (2, entries))
        self.assertEqual(Book(size=3, entries=()).entries, ())
        six = tuple((word, use()) for word in "abcdef")
        self.assertEqual(Book(2, six).entries, six)

    def test_equal(self):
        book = Book(2, (("inc", INC), ("twice", TWICE)))
        self.assertEqual(book, Book(2, (("inc", fun(("sum", name("p"), number(1)), {}, (("p", "num"),))),
                                        ("twice", TWICE))))
        self.assertNotEqual(book, Book(2, (("inc", INC),)))
        self.assertNotEqual(book, Book(2, (("inc", INC), ("twices", TWICE))))
        self.assertNotEqual(Book(2, ()), Book(3, ()))
        for thing in ODD_VALUES + [book.entries]:
            self.assertFalse(book == thing)

    def test_size(self):
        for size in (1, 5, True, None, 2.0, "2"):
            with self.assertRaises(BadNumber) as caught:
                Book(size, None)
            self.assertEqual(caught.exception.part, "size")

    def test_entries(self):
        good = use()
        wrong = [None, [], [("a", good)], ("a", good), (("a",),), (("a", good, 0),), (["a", good],), (("A", good),),
                 (("", good),), (("abcdefghi", good),), ((0, good),), (("b", good), ("a", good)),
                 (("a", good), ("a", good)), (("a", Piece(2, {}, number(0))),), (("a", None),),
                 (("a", fun(number(0), {}, (), 3)),), (("a", fun(name("v"), {"v": BOX})),),
                 tuple((word, good) for word in "abcdefg"), {"a": good}, ((("a",), good),)]
        for entries in wrong:
            self.check_part("entries", entries)
        for thing in ODD_VALUES:
            self.check_part("entries", (("a", thing),))

    def test_sorts(self):
        other = fun(SKIP, {"x": DO})
        self.check_part("sorts", (("a", use("x")), ("b", other)))
        self.check_part("sorts", (("a", use("b")), ("b", fun(SKIP))))
        self.check_part("sorts", (("a", use("b")), ("b", INC)))
        self.check_part("sorts", (("a", fun(SKIP, {"b": UNARY})), ("b", fun(SKIP, {}, (("p", "num"),)))))
        self.check_part("sorts", (("a", use("a", "x")), ("b", fun(SKIP, {"a": DO, "x": DO}))))
        Book(2, (("a", fun(SKIP, {"b": UNARY})), ("b", INC), ("c", fun(SKIP, {"b": UNARY}))))

    def test_params(self):
        self.check_part("params", (("a", use()), ("b", fun(number(0), {}, (("a", "num"),)))))
        self.check_part("params", (("a", fun(number(0), {}, (("a", "num"),))),))
        self.check_part("params", (("a", use("x")), ("b", fun(number(0), {}, (("x", "num"),)))))
        self.check_part("params", (("a", fun(number(0), {}, (("x", "do"),))), ("b", use("x"))))
        same = (("p", "num"),)
        Book(2, (("a", fun(number(0), {}, same)), ("b", fun(number(0), {}, same))))

    def test_many(self):
        self.check_part("many", (("a", use("w", "x", "y", "z")), ("b", use("a"))))
        self.check_part("many", (("a", use("v", "w", "x")), ("b", use("y", "z"))))
        self.check_part("many", (("a", use("x", "y", "z")), ("b", fun(number(0), {}, (("p", "num"), ("q", "do"))))))
        self.check_part("many", (("a", use()), ("b", use("x", "y")), ("c", fun(
            number(0), {"a": NUM, "b": NUM}, (("p", "num"),)))))
        Book(2, (("a", use("w", "x", "y", "z")), ("b", use())))
        Book(2, (("a", use("x", "y")), ("b", fun(number(0), {"a": NUM}, (("p", "num"),)))))
        Book(2, (("a", use()), ("b", use()), ("c", use()), ("d", use()), ("e", use("a", "b", "c", "d"))))

    def test_ring(self):
        self.check_part("ring", (("a", use("a")),))
        self.check_part("ring", (("a", use("b")), ("b", use("a"))))
        self.check_part("ring", (("a", use("b")), ("b", use("c")), ("c", use("d")), ("d", use("b"))))
        Book(2, (("a", use("b", "c")), ("b", use("d")), ("c", use("d")), ("d", use())))

    def test_parts_in_their_sequence(self):
        p = (("p", "num"),)
        self.check_part("sorts", (("a", use("a", "p", "w", "x")), ("b", fun(SKIP, {"x": DO, "y": NUM}, p))))
        self.check_part("params", (("a", use("a", "p", "w", "x")), ("b", fun(SKIP, {"x": NUM, "y": NUM}, p))))
        self.check_part("many", (("a", use("a", "q", "w", "x")), ("b", fun(SKIP, {"x": NUM, "y": NUM}, p))))
        self.check_part("ring", (("a", use("a", "x")), ("b", fun(SKIP, {"x": NUM, "y": NUM}, p))))

    def test_open_names(self):
        book = Book(2, (("a", use("z", "b")), ("b", fun(number(0), {"f": UNARY})), ("c", use("z"))))
        self.assertEqual(list(open_names(book).items()), [("f", UNARY), ("z", NUM)])
        self.assertEqual(open_names(book=Book(2, ())), {})
        open_names(book)["q"] = NUM
        self.assertEqual(list(open_names(book)), ["f", "z"])

    def test_uses(self):
        book = Book(2, (("a", use("b", "x")), ("b", use("d")), ("c", use("a")), ("d", use()), ("e", use())))
        wanted = {"a": ["b", "d"], "b": ["d"], "c": ["a", "b", "d"], "d": [], "e": []}
        for word, words in wanted.items():
            self.assertEqual(uses(book, word), words)
            self.assertEqual(uses(book=book, word=word), words)

    def test_errors_in_their_sequence(self):
        for thing in ODD_VALUES + [use(), ()]:
            for call in (open_names, lambda book: uses(book, None)):
                with self.assertRaises(BadBook) as caught:
                    call(thing)
                self.assertIsNone(caught.exception.part)
        book = Book(2, (("a", use("x")),))
        for word in ("x", "b", "", None, ["a"], ("a",), {"a": 1}, 0, "A"):
            with self.assertRaises(BadWord):
                uses(book, word)

    def test_functions_that_put_makes(self):
        piece = Piece(2, {"x": NUM}, ("sum", name("x"), name("x")))
        for _ in range(6):
            piece = put(piece, "x", Function(2, {"x": NUM}, (), ("sum", name("x"), name("x"))))
        from playsalike.pieces import function_of
        self.assertEqual(open_names(Book(2, (("a", function_of(piece)),))), {"x": NUM})

    def test_random_books_against_the_words_of_the_point(self):
        rng = some(90)
        seen = {}
        for _ in range(4000):
            entries = []
            for word in sorted(rng.sample("abcd", rng.choice((1, 2, 3, 4)))):
                names = {other: rng.choice((NUM, NUM, NUM, DO)) for other in rng.sample("abcdxyz", rng.choice((0, 1, 2)))}
                free = [p for p in ("p", "q", "x", "a") if p not in names]
                params = tuple((p, "num") for p in rng.sample(free, rng.choice((0, 0, 1, 2))))
                entries.append((word, fun(number(0), names, params)))
            wanted = wrong_part(dict(entries))
            seen[wanted] = seen.get(wanted, 0) + 1
            if wanted is None:
                Book(2, tuple(entries))
            else:
                self.check_part(wanted, tuple(entries))
        self.assertGreater(min(seen[part] for part in (None, "sorts", "params", "many", "ring")), 20)


def wrong_part(table):
    """The part that is wrong of a book of these entries, as the document tells it."""
    sorts = [(other, sort) for one in table.values() for other, sort in one.names.items()]
    if any(s != t for w, s in sorts for v, t in sorts if w == v):
        return "sorts"
    if any(w in table and table[w].kind != s for w, s in sorts):
        return "sorts"
    params = [word for one in table.values() for word, _ in one.params]
    if any(word in table or word in [w for w, _ in sorts] for word in params):
        return "params"
    opened = {w for w, _ in sorts if w not in table}
    for one in table.values():
        if len([w for w in one.names if w in table]) + len(one.params) + len(opened) > 4:
            return "many"
    return "ring" if any(leads(table, word, word, len(table)) for word in table) else None


def leads(table, word, goal, most):
    """Whether entries lead from word to goal by at most so many uses."""
    if most == 0:
        return False
    inner = [w for w in table[word].names if w in table]
    return goal in inner or any(leads(table, w, goal, most - 1) for w in inner)


if __name__ == "__main__":
    unittest.main()
