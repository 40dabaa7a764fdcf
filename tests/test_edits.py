"""Point 92: edits of books, what they reach, and books compared."""

import unittest

from libraries import INC, TWICE, UNARY, changed_book, fun, random_book, random_entry, random_sorts, use
from playsalike.alike import less, same
from playsalike.books import Book, open_names, uses
from playsalike.edits import compared, edited, is_edit, reached
from playsalike.errors import BadBook, BadEdit, NotLet, TooMany
from playsalike.links import linked, open_piece
from playsalike.pieces import Piece
from samples import DO, NUM, ODD_VALUES, SKIP, name, number, some

X, GO = name("x"), name("go")
BOOK = Book(2, (("inc", INC), ("twice", TWICE)))


class IsEdit(unittest.TestCase):
    def test_any_value(self):
        for thing in (("put", "a", INC), ("drop", "abcdefgh"), ("put", "zz", fun(("made", number(0), "n", SKIP)))):
            self.assertIs(is_edit(thing=thing), True)
        for thing in ODD_VALUES + [
                ["drop", "a"], ("drop", "A"), ("drop", ""), ("drop", "abcdefghi"), ("drop", 1), ("drop",), ("drop", "a", INC),
                ("put", "a"), ("put", "a", None), ("put", "a", Piece(2, {}, SKIP)), ("put", "A", INC), ("put", INC, "a"),
                ("puts", "a", INC), ("put", "a", INC, 0), (None, "a"), ("ask", "a"), ["put", "a", INC], ("drop", ["a"])]:
            self.assertIs(is_edit(thing), False)


class Edited(unittest.TestCase):
    def test_put_and_drop(self):
        dec = fun(("less", name("p"), number(1)), {}, (("p", "num"),))
        self.assertEqual(edited(book=BOOK, edit=("put", "inc", dec)), Book(2, (("inc", dec), ("twice", TWICE))))
        self.assertEqual(edited(BOOK, ("put", "one", use())), Book(2, (("inc", INC), ("one", use()), ("twice", TWICE))))
        self.assertEqual(edited(BOOK, ("drop", "twice")), Book(2, (("inc", INC),)))
        without = edited(BOOK, ("drop", "inc"))
        self.assertEqual((without, open_names(without)), (Book(2, (("twice", TWICE),)), {"inc": UNARY}))
        self.assertEqual(edited(without, ("put", "inc", INC)), BOOK)
        self.assertEqual(BOOK.entries, (("inc", INC), ("twice", TWICE)))

    def check(self, book, edit, why):
        for call in (edited, reached):
            with self.assertRaises(NotLet) as caught:
                call(book, edit)
            self.assertEqual(caught.exception.why, why)

    def test_each_reason_for_which_one_cannot_be_done(self):
        self.check(BOOK, ("drop", "p"), "word")
        self.check(Book(2, ()), ("drop", "inc"), "word")
        six = Book(2, tuple((word, use()) for word in "abcdef"))
        self.check(six, ("put", "g", use()), "entries")
        edited(six, ("put", "f", use()))
        self.check(BOOK, ("put", "a", fun(number(0), size=3)), "entries")
        self.check(BOOK, ("put", "a", fun(("made", number(0), "n", SKIP))), "entries")
        self.check(BOOK, ("put", "a", fun(number(0), {"inc": NUM})), "sorts")
        self.check(BOOK, ("put", "inc", use()), "sorts")
        self.check(BOOK, ("put", "p", use()), "params")
        self.check(BOOK, ("put", "a", use("p")), "params")
        self.check(BOOK, ("put", "a", fun(number(0), {}, (("inc", "num"),))), "params")
        self.check(BOOK, ("put", "a", use("u", "v", "w", "z")), "many")
        self.check(BOOK, ("put", "inc", fun(name("p"), {"twice": NUM}, (("p", "num"),))), "ring")
        self.check(BOOK, ("put", "a", use("a")), "ring")
        # What is dropped is an open name from then on.
        full = Book(2, (("a", use("b", "x", "y", "z")), ("b", use())))
        self.assertEqual(len(open_names(edited(full, ("drop", "b")))), 4)

    def test_dropping_may_make_too_many_open_names(self):
        book = Book(2, (("a", use("x", "y", "z")), ("b", use("c")), ("c", use()), ("d", fun(name("p"), {}, (("p", "num"),)))))
        self.check(book, ("drop", "c"), "many")

    def test_errors_in_their_sequence(self):
        for thing in ODD_VALUES + [BOOK.entries]:
            for call in (edited, reached):
                with self.assertRaises(BadBook) as caught:
                    call(thing, None)
                self.assertIsNone(caught.exception.part)
            for pair in ((thing, BOOK), (BOOK, thing), (thing, thing)):
                with self.assertRaises(BadBook) as caught:
                    compared(*pair)
                self.assertIsNone(caught.exception.part)
        for call in (edited, reached):
            for edit in ODD_VALUES + [("put", "a", None), ("drop", "A"), ["drop", "inc"]]:
                with self.assertRaises(BadEdit):
                    call(BOOK, edit)


class Reached(unittest.TestCase):
    def test_by_hand(self):
        book = Book(2, (("a", use("b")), ("b", use("c", "x")), ("c", use()), ("d", use("c")), ("e", use())))
        self.assertEqual(reached(book=book, edit=("put", "c", use())), ["a", "b", "c", "d"])
        self.assertEqual(reached(book, ("drop", "c")), ["a", "b", "d"])
        self.assertEqual(reached(book, ("put", "b", use())), ["a", "b"])
        self.assertEqual(reached(book, ("put", "e", use("a"))), ["e"])
        self.assertEqual(reached(book, ("put", "x", use())), ["a", "b", "x"])
        self.assertEqual(reached(book, ("put", "f", use("a"))), ["f"])
        self.assertEqual(reached(book, ("drop", "e")), [])

    def test_beside_compared(self):
        rng = some(92)
        seen = {}
        for _ in range(150):
            sorts = random_sorts(rng, "abcd")
            book = random_book(rng, sorts=sorts)
            word = rng.choice("abcde")
            edit = ("drop", word) if rng.random() < 0.25 else (
                "put", word, random_entry(rng, 2, {**sorts, "e": NUM}, word))
            try:
                behind = edited(book, edit)
                found = compared(book, behind)
            except (NotLet, TooMany):
                continue
            words = reached(book, edit)
            self.assertEqual(words, [one for one in dict(behind.entries) if one == word or word in uses(behind, one) or (
                one in dict(book.entries) and word in uses(book, one))])
            for one, told in found.items():
                seen[told] = True
                if one in words or one not in dict(book.entries) or one not in dict(behind.entries):
                    continue
                self.assertEqual(told, "same" if open_names(book) == open_names(behind) else "other")
        self.assertEqual(sorted(seen), ["gone", "less", "more", "new", "other", "same", "unlike"])


class Compared(unittest.TestCase):
    def test_each_word(self):
        never, looks = fun(("never", "do"), {"x": NUM}), fun(("if", X, SKIP, SKIP), {"x": NUM})
        first = Book(2, (("a", looks), ("b", never), ("c", looks), ("d", fun(SKIP)), ("e", fun(number(1))), ("f", looks)))
        second = Book(2, (("a", never), ("b", looks), ("c", fun(("if", ("not", X), SKIP, SKIP), {"x": NUM})),
                          ("d", looks), ("e", fun(SKIP)), ("g", looks)))
        self.assertEqual(list(compared(book=first, other=second).items()), [
            ("a", "less"), ("b", "more"), ("c", "same"), ("d", "unlike"), ("e", "other"), ("f", "gone"), ("g", "new")])
        back = compared(second, first)
        self.assertEqual(back, {"a": "more", "b": "less", "c": "same", "d": "unlike", "e": "other", "f": "new", "g": "gone"})
        self.assertEqual(list(back), sorted(back))

    def test_other(self):
        one = Book(2, (("a", fun(name("p"), {}, (("p", "num"),))),))
        twice = fun(("not", ("not", name("p"))), {}, (("p", "num"),))
        for function, told in ((fun(name("q"), {}, (("q", "num"),)), "other"), (fun(SKIP, {}, (("p", "num"),)), "other"),
                               (fun(number(0), {}, (("p", "do"),)), "other"), (twice, "same")):
            self.assertEqual(compared(one, Book(2, (("a", function),))), {"a": told})
        self.assertEqual(compared(one, Book(3, (("a", fun(name("p"), {}, (("p", "num"),), 3)),))), {"a": "other"})
        # Open names of other entries are names, too.
        self.assertEqual(compared(one, Book(2, one.entries + (("b", use("z")),))), {"a": "other", "b": "new"})
        self.assertEqual(compared(Book(2, ()), Book(3, ())), {})

    def test_claims(self):
        breaks = Book(2, (("a", fun(("claim", number(0)), {"go": DO})),))
        later = Book(2, (("a", fun(("then", GO, ("claim", number(0))), {"go": DO})),))
        self.assertEqual((compared(breaks, later), compared(later, breaks)), ({"a": "less"}, {"a": "more"}))

    def test_by_chance(self):
        rng = some(93)
        for _ in range(80):
            sorts = random_sorts(rng, "abcd")
            book = random_book(rng, sorts=sorts)
            other = changed_book(rng, book, sorts, 2)
            try:
                found = compared(book, other)
                pieces = {word: (linked(book, word), linked(other, word)) for word in sorts}
            except TooMany:
                continue
            for word, (one, two) in pieces.items():
                if one.names != two.names:
                    wanted = "other"
                elif same(one, two):
                    wanted = "same"
                else:
                    wanted = "less" if less(two, one) else "more" if less(one, two) else "unlike"
                self.assertEqual(found[word], wanted)

    def test_in_the_place_of_one_another(self):
        rng = some(94)
        tried = 0
        for _ in range(250):
            sorts = random_sorts(rng, "abc")
            book = random_book(rng, sorts=sorts, claims=False)
            other = changed_book(rng, book, sorts, 2, claims=False)
            if open_names(book) != open_names(other):
                continue
            pairs = [(open_piece(book, word), open_piece(other, word)) for word in sorts]
            if any(one.names != two.names for one, two in pairs):
                continue
            try:
                found = compared(book, other)
            except TooMany:
                continue
            tried += 1
            if all(same(one, two) for one, two in pairs):
                self.assertEqual(set(found.values()), {"same"})
            if all(less(two, one) for one, two in pairs):
                self.assertLessEqual(set(found.values()), {"same", "less"})
            if all(less(one, two) for one, two in pairs):
                self.assertLessEqual(set(found.values()), {"same", "more"})
        self.assertGreater(tried, 40)

    def test_too_many(self):
        wide = ("sum", ("sum", ("sum", name("b"), name("b")), ("sum", name("b"), name("b"))), ("sum", name("b"), name("b")))
        great = Book(2, (("a", fun(wide, {"b": NUM})), ("b", fun(
            ("sum", ("sum", ("sum", X, X), ("sum", X, X)), ("sum", X, X)), {"x": NUM}))))
        small = Book(2, (("a", fun(X, {"x": NUM})), ("b", fun(X, {"x": NUM}))))
        for pair in ((great, small), (small, great)):
            with self.assertRaises(TooMany) as caught:
                compared(*pair)
            self.assertEqual(caught.exception.most, 60)
        # Linked is ahead of told: also where it comes to "other"; what is gone is not linked.
        with self.assertRaises(TooMany):
            compared(great, Book(2, (("a", fun(SKIP)),)))
        self.assertEqual(compared(great, Book(2, (("b", fun(SKIP)),))), {"a": "gone", "b": "other"})
        deep = name("p")
        for _ in range(8):
            deep = ("not", deep)
        book = Book(2, (("a", fun(name("b", name("b", number(0))), {"b": UNARY})), ("b", fun(deep, {}, (("p", "num"),)))))
        with self.assertRaises(TooMany) as caught:
            compared(book, book)
        self.assertEqual(caught.exception.most, 12)

    def test_machines_that_are_too_great(self):
        names = {word: (("box", "box", "box"), "do") for word in "fg"}
        uses_of = [name("f", *map(name, "abc")), name("g", *map(name, "deh")), name("f", *map(name, "abc"))]
        term = ("then", uses_of[0], ("then", uses_of[1], uses_of[2]))
        for word in "abcdeh":
            term = ("new", word, 0, term)
        great = Book(4, (("k", fun(term, names, (), 4)),))
        small = Book(4, (("k", fun(SKIP, names, (), 4)),))
        for pair in ((great, small), (small, great)):
            with self.assertRaises(TooMany) as caught:
                compared(*pair)
            self.assertEqual(caught.exception.most, 2000)
        self.assertEqual(compared(great, Book(4, (("k", fun(SKIP, {}, (), 4)),))), {"k": "other"})


if __name__ == "__main__":
    unittest.main()
