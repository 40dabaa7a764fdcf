"""Point 93: mixed books, and which entries make a word do something else."""

import unittest
from itertools import combinations

from libraries import changed_book, random_book, random_sorts
from playsalike.alike import same
from playsalike.books import Book, open_names, uses
from playsalike.culprits import culprits, mixed
from playsalike.errors import BadBook, BadLot, BadWord, TooMany
from playsalike.links import linked
from playsalike.pieces import Function
from samples import DO, NUM, ODD_VALUES, SKIP, name, number, some

UNARY = (("num",), "num")
X = name("x")


def fun(term, names=None, params=(), size=2):
    return Function(size, names or {}, params, term)


def num(term, *words):
    """A function that gives a number and has these numbers as names."""
    return fun(term, {word: NUM for word in words})


def book(**functions):
    return Book(2, tuple(sorted(functions.items(), key=lambda pair: pair[0])))


ONE = num(number(1))
ZERO = num(number(0))
SUM = num(("sum", name("a"), name("b")), "a", "b")


def lots(words):
    return [list(lot) for many in range(len(words) + 1) for lot in combinations(sorted(words), many)]


def is_changed(first, other, lot, word):
    """What culprits looks for, told a second way."""
    try:
        one, two = linked(first, word), linked(mixed(first, other, lot), word)
        return (one.size, one.names, one.kind) != (two.size, two.names, two.kind) or not same(one, two)
    except (BadBook, TooMany):
        return False


class Mixed(unittest.TestCase):
    def test_by_hand(self):
        first = book(a=ZERO, b=ZERO, c=SUM)
        other = book(a=ONE, b=ONE, c=num(name("a"), "a"))
        self.assertEqual(mixed(book=first, other=other, lot=[]), first)
        self.assertEqual(mixed(first, other, ["a", "b", "c"]), other)
        self.assertEqual(mixed(first, other, ("a", "c")), book(a=ONE, b=ZERO, c=num(name("a"), "a")))

    def test_lots_that_make_none(self):
        first = book(a=num(number(0), "b"), b=ZERO)
        other = book(a=ZERO, b=num(number(0), "a"))
        self.check_part("ring", first, other, ["b"])
        self.assertEqual(mixed(first, other, ["a"]), book(a=ZERO, b=ZERO))
        first = book(a=num(number(0), "b"), b=ZERO)
        other = book(a=fun(number(0), {"b": UNARY}), b=fun(number(0), {}, (("p", "num"),)))
        for lot in (["a"], ["b"]):
            self.check_part("sorts", first, other, lot)
        first = book(a=num(number(0), "x"), b=ZERO)
        other = book(a=ZERO, b=num(number(0), "u", "v", "w", "z"))
        self.check_part("many", first, other, ["b"])
        first = book(a=num(number(0), "x"), b=fun(number(0), {}, (("y", "num"),)))
        other = book(a=num(number(0), "y"), b=fun(number(0), {}, (("x", "num"),)))
        self.check_part("params", first, other, ["a"])
        self.check_part("params", first, other, ["b"])

    def check_part(self, part, first, other, lot):
        with self.assertRaises(BadBook) as caught:
            mixed(first, other, lot)
        self.assertEqual(caught.exception.part, part)

    def test_errors_in_their_sequence(self):
        first = book(a=ZERO, b=ONE)
        for call in (mixed, culprits):
            for thing in ODD_VALUES + [first.entries]:
                for pair in ((thing, first), (first, thing), (thing, thing)):
                    with self.assertRaises(BadBook) as caught:
                        call(*pair, None)
                    self.assertIsNone(caught.exception.part)
            for other in (book(a=ZERO), book(a=ZERO, c=ONE), book(a=ZERO, b=ONE, c=ONE), Book(2, ()),
                          Book(3, (("a", fun(number(0), size=3)), ("b", fun(number(1), size=3))))):
                for pair in ((first, other), (other, first)):
                    with self.assertRaises(BadBook) as caught:
                        call(*pair, None)
                    self.assertEqual(caught.exception.part, "words")
        for lot in (None, "ab", ["b", "a"], ["a", "a"], ["c"], [None], ["a", 1], {"a": 1}, [["a"]], 3):
            with self.assertRaises(BadLot):
                mixed(first, first, lot)
        for word in ("c", None, 0, ["a"], "", "A"):
            with self.assertRaises(BadWord):
                culprits(first, first, word)


class Culprits(unittest.TestCase):
    def test_by_hand(self):
        first = book(a=ZERO, b=ZERO, c=SUM)
        other = book(a=ONE, b=ONE, c=SUM)
        self.assertEqual(culprits(book=first, other=other, word="c"), ["a"])
        self.assertEqual(culprits(first, other, "b"), ["b"])
        self.assertIsNone(culprits(first, first, "c"))
        self.assertIsNone(culprits(first, book(a=ZERO, b=num(("not", number(1))), c=SUM), "c"))
        # One alone does nothing: both are needed.
        both = num(("if", name("a"), name("b"), number(0)), "a", "b")
        self.assertEqual(culprits(book(a=ZERO, b=ZERO, c=both), book(a=ONE, b=ONE, c=both), "c"), ["a", "b"])
        self.assertEqual(culprits(book(a=ZERO, b=ZERO, c=both, d=ZERO), book(a=ONE, b=ONE, c=both, d=ONE), "c"), ["a", "b"])
        # The fewest: one late word comes ahead of two early ones.
        three = num(("sum", ("if", name("a"), name("b"), number(0)), name("z")), "a", "b", "z")
        self.assertEqual(culprits(book(a=ZERO, b=ZERO, c=three, z=ZERO), book(a=ONE, b=ONE, c=three, z=ONE), "c"), ["z"])

    def test_sorts_that_change_together(self):
        first = book(a=ZERO, c=num(name("a"), "a"))
        other = book(a=fun(name("p"), {}, (("p", "num"),)), c=fun(name("a", number(1)), {"a": UNARY}))
        self.assertEqual(culprits(first, other, "c"), ["a", "c"])
        self.assertEqual(culprits(first, other, "a"), ["a", "c"])

    def test_names_that_go_along(self):
        first = book(a=num(X, "x"), c=num(number(0), "x"))
        other = book(a=num(number(0)), c=num(number(0)))
        self.assertEqual(culprits(first, other, "c"), ["a", "c"])     # x is open no more: "other"
        self.assertEqual(culprits(first, other, "a"), ["a"])

    def test_against_trying_all_lots(self):
        rng = some(93)
        seen = {}
        for _ in range(120):
            sorts = random_sorts(rng, "abcd")
            first = random_book(rng, sorts=sorts)
            other = changed_book(rng, first, sorts, rng.randint(1, 4))
            if rng.random() < 0.3:
                other = random_book(rng, sorts={**sorts, rng.choice("abcd"): rng.choice((NUM, DO))})
            for word in sorts:
                try:
                    linked(first, word)
                except TooMany:
                    continue
                found = culprits(first, other, word)
                wanted = [lot for lot in lots(sorts) if is_changed(first, other, lot, word)]
                self.assertEqual(found, wanted[0] if wanted else None)
                seen[None if found is None else len(found)] = True
                if found is not None:
                    self.check_facts(first, other, word, found)
        self.assertLessEqual({None, 1, 2}, set(seen))

    def check_facts(self, first, other, word, found):
        functions, others = dict(first.entries), dict(other.entries)
        behind = mixed(first, other, found)
        for one in found:
            self.assertNotEqual(functions[one], others[one])
            rest = [each for each in found if each != one]
            self.assertFalse(is_changed(first, other, rest, word))
            try:
                without = mixed(first, other, rest)
            except BadBook:
                continue
            if open_names(without) == open_names(behind):
                self.assertTrue(one == word or one in uses(behind, word))

    def test_linked_terms_as_great_as_can_be(self):
        def nest(many, inner):
            for _ in range(many):
                inner = ("not", inner)
            return inner

        first = book(a=ZERO, c=num(nest(6, name("a")), "a"))
        fits = book(a=num(nest(5, number(0))), c=num(nest(6, name("a")), "a"))
        deep = book(a=num(nest(6, number(0))), c=num(nest(6, name("a")), "a"))
        self.assertEqual(culprits(first, fits, "c"), ["a"])
        self.assertIsNone(culprits(first, deep, "c"))
        self.assertEqual(culprits(first, book(a=num(nest(6, number(0))), c=num(nest(5, name("a")), "a")), "c"), ["c"])
        with self.assertRaises(TooMany) as caught:
            culprits(deep, first, "c")
        self.assertEqual(caught.exception.most, 12)
        self.assertIsNone(culprits(deep, first, "a"))

        def wide(many, inner):
            return inner if many == 1 else ("sum", wide(many // 2, inner), wide(many - many // 2, inner))

        first = book(a=ONE, c=num(wide(10, name("a")), "a"))                 # 19 nodes with one for a
        fits = book(a=num(("sum", X, ("not", X)), "x"), c=num(wide(10, name("a")), "a"))
        self.assertEqual(culprits(first, fits, "c"), ["a"])                  # 49 nodes
        great = book(a=num(("sum", X, ("sum", X, ("not", X))), "x"), c=num(wide(10, name("a")), "a"))
        self.assertIsNone(culprits(first, great, "c"))                       # 69 nodes
        with self.assertRaises(TooMany) as caught:
            culprits(great, first, "c")
        self.assertEqual(caught.exception.most, 60)
        just = book(a=num(("sum", X, ("sum", X, X)), "x"), c=num(wide(10, name("a")), "a"))
        self.assertEqual(culprits(first, just, "c"), ["a"])                  # 59 nodes

    def test_claims(self):
        go = {"go": DO}
        first = book(a=fun(SKIP, go), c=fun(("then", name("a"), ("claim", number(0))), {"a": DO, **go}))
        other = book(a=fun(("claim", number(0)), go), c=fun(("then", name("a"), ("claim", number(0))), {"a": DO, **go}))
        self.assertIsNone(culprits(first, other, "c"))
        self.assertEqual(culprits(first, other, "a"), ["a"])


if __name__ == "__main__":
    unittest.main()
