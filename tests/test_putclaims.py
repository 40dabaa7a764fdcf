"""Point 63: whether pieces are safe with functions put in."""

import unittest

from meanings import SORTS, random_function, random_names, random_piece
from playsalike.alike import less
from playsalike.claims import is_safe
from playsalike.errors import BadPiece, TooMany
from playsalike.pieces import Function, Piece, put, put_in
from playsalike.putclaims import always_breaks, safe_with
from playsalike.terms import is_term, sort_of
from samples import BOX, DO, NUM, ODD_VALUES, SKIP, every_place, name, number, some, term_parts

X, P, GO = name("x"), name("p"), name("go")
F = {"f": (("do",), "do")}
NEVER = ("never", "do")


def turned(rng, function):
    """The function with some parts of its body turned to never."""
    names = {**function.names, **{word: ((), plain) for word, plain in function.params}}

    def turn(term, scope):
        sort = sort_of(function.size, scope, term)
        if sort != "box" and rng.random() < 0.15:
            return ("never", sort)
        things = list(term)
        if term[0] == "name":
            return ("name", term[1], tuple(turn(part, scope) for part in term[2]))
        for (at,), part in term_parts(term):
            inner = {**scope, term[1]: BOX} if term[0] == "new" else scope
            if term[0] == "made" and at == 3:
                inner = {**scope, term[2]: NUM}
            things[at] = turn(part, inner) if len(inner) <= 4 else part
        return tuple(things)

    if len(names) > 4:
        return function
    term = turn(function.term, names)
    assert is_term(function.size, names, term)
    return Function(function.size, function.names, function.params, term)


class PutClaims(unittest.TestCase):
    def test_by_hand(self):
        twice = Piece(2, {"x": NUM}, ("claim", ("same", X, X)))
        self.assertIs(safe_with(piece=twice, word="x", function=Function(2, {}, (), number(1))), True)
        self.assertIs(safe_with(twice, "x", Function(2, {"y": NUM}, (), name("y"))), False)
        self.assertIs(always_breaks(piece=twice, word="x"), False)
        self.assertIs(always_breaks(Piece(2, {"x": NUM}, ("then", ("claim", number(0)), ("claim", X))), "x"), True)
        # Asked, the argument breaks, whatever comes behind it.
        breaks = Piece(2, F, name("f", ("claim", number(0))))
        asks = Function(2, {}, (("p", "do"),), ("then", P, NEVER))
        self.assertFalse(safe_with(breaks, "f", asks))
        self.assertTrue(safe_with(breaks, "f", Function(2, {}, (("p", "do"),), NEVER)))
        self.assertFalse(always_breaks(breaks, "f"))
        self.assertTrue(always_breaks(Piece(2, {"f": (("num", "do", "box"), "num"), "go": DO, "v": BOX}, (
            "then", ("if", GET, ("claim", GET), ("claim", GET)), name("f", number(0), GO, V))), "f"))

    def test_functions_with_claims_of_their_own(self):
        piece = Piece(2, {"x": NUM, "go": DO}, ("if", X, GO, SKIP))
        self.assertFalse(safe_with(piece, "go", Function(2, {}, (), ("claim", number(0)))))
        self.assertTrue(safe_with(piece, "go", Function(2, {}, (), ("claim", number(1)))))
        box = Piece(2, {"v": BOX}, ("set", name("v"), number(1)))
        self.assertFalse(safe_with(box, "v", Function(2, {}, (), ("made", number(0), "n", ("claim", ("not", name("n")))))))
        self.assertTrue(safe_with(box, "v", Function(2, {}, (), ("made", number(0), "n", ("claim", name("n"))))))

    def test_parts_turned_to_never(self):
        rng = some(63)
        seen = {}
        for _ in range(300):
            names = {**random_names(rng, 2, SORTS), "f": rng.choice([sort for sort in SORTS if sort != BOX])}
            piece = random_piece(rng, 5, names=names, size=2, nodes=4)
            function = random_function(rng, 2, names["f"], {}, rng.choice((3, 4)), rng.random() < 0.5)
            low = turned(rng, function)
            wholes = put(piece, "f", low), put(piece, "f", function)
            self.assertTrue(less(*wholes) or not is_safe(wholes[1]))
            try:
                safe = safe_with(piece, "f", low), safe_with(piece, "f", function)
            except TooMany:
                continue
            self.assertEqual(safe, (is_safe(wholes[0]), is_safe(wholes[1])))
            if safe[1]:
                self.assertTrue(safe[0])
            if always_breaks(piece, "f"):
                self.assertEqual(safe, (False, False))
            seen[safe, always_breaks(piece, "f")] = True
        self.assertGreaterEqual(len(seen), 4)

    def test_always_breaks_against_the_function_that_never_ends(self):
        rng = some(64)
        seen = {True: 0, False: 0}
        for _ in range(200):
            sort = rng.choice([sort for sort in SORTS if sort != BOX])
            names = {**random_names(rng, 1), "z": sort}
            piece = random_piece(rng, 5, names=names, size=2, nodes=4)
            never = Function(2, {}, tuple(zip(("p", "q", "r"), sort[0])), ("never", sort[1]))
            self.assertEqual(always_breaks(piece, "z"), not is_safe(put_in(piece, "z", never)))
            seen[always_breaks(piece, "z")] += 1
        self.assertGreater(min(seen.values()), 8)

    def test_errors(self):
        piece = Piece(2, {**F, "v": BOX}, name("f", SKIP))
        never = Function(2, {}, (("p", "do"),), NEVER)
        for thing in ODD_VALUES + [never]:
            for call in (lambda: safe_with(thing, "f", None), lambda: always_breaks(thing, None)):
                with self.assertRaises(BadPiece) as caught:
                    call()
                self.assertIsNone(caught.exception.part)
        for word in ("y", None, 0, ["f"], "", "F"):
            for call in (lambda: safe_with(piece, word, None), lambda: always_breaks(piece, word)):
                with self.assertRaises(BadPiece) as caught:
                    call()
                self.assertEqual(caught.exception.part, "word")
        with self.assertRaises(BadPiece) as caught:
            always_breaks(piece, "v")
        self.assertEqual(caught.exception.part, "word")
        for other in (None, piece, Function(3, {}, (("p", "do"),), NEVER), Function(2, {}, (), NEVER)):
            with self.assertRaises(BadPiece) as caught:
                safe_with(piece, "f", other)
            self.assertEqual(caught.exception.part, "other")
        with self.assertRaises(BadPiece) as caught:
            safe_with(piece, "f", Function(2, {"v": NUM}, (("p", "do"),), NEVER))
        self.assertEqual(caught.exception.part, "names")
        wide = ("sum", ("sum", ("sum", X, X), ("sum", X, X)), ("sum", ("sum", X, X), ("sum", X, X)))
        with self.assertRaises(TooMany) as caught:
            safe_with(Piece(2, {"x": NUM}, ("claim", wide)), "x", Function(2, {"x": NUM}, (), wide))
        self.assertEqual(caught.exception.most, 60)
        deep = P
        for _ in range(9):
            deep = ("then", SKIP, deep)
        with self.assertRaises(TooMany) as caught:
            safe_with(Piece(2, F, name("f", name("f", SKIP))), "f", Function(2, {}, (("p", "do"),), deep))
        self.assertEqual(caught.exception.most, 12)
        self.assertEqual(len(every_place(deep)), 19)


V = name("v")
GET = ("get", V)


if __name__ == "__main__":
    unittest.main()
