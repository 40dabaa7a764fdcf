"""Points 12 and 13: pieces, functions, and putting functions in the place of names."""

import unittest

from playsalike.errors import BadNumber, BadPiece, BadSort, BadTerm, TooMany
from playsalike.evaluating import evaluated
from playsalike.pieces import Function, Piece, free_names, function_of, put, put_in
from playsalike.terms import is_term
from samples import BOX, DO, NUM, ODD_VALUES, SKIP, count_nodes, depth_of, leveled, name, number
from samples import put_by_tags, random_term, some

X, Y, GO, V = name("x"), name("y"), name("go"), name("v")


def part_of(error, call, *args):
    """The part that the error tells, raised by the call."""
    try:
        call(*args)
    except error as caught:
        return caught.part
    raise AssertionError("nothing raised")


def chain(inner, many):
    for _ in range(many):
        inner = ("not", inner)
    return inner


class Pieces(unittest.TestCase):
    def test_attributes(self):
        piece = Piece(3, {"x": NUM, "go": DO, "f": (("num",), "do")}, ("then", GO, X))
        self.assertEqual(piece.size, 3)
        self.assertEqual(list(piece.names.items()), [("f", (("num",), "do")), ("go", DO), ("x", NUM)])
        self.assertEqual(piece.term, ("then", GO, X))
        self.assertEqual(piece.kind, "num")
        self.assertEqual(Piece(size=2, names={}, term=SKIP).kind, "do")

    def test_equal(self):
        piece = Piece(2, {"x": NUM, "go": DO}, X)
        self.assertEqual(piece, Piece(2, {"go": DO, "x": NUM}, X))
        self.assertNotEqual(piece, Piece(3, {"x": NUM, "go": DO}, X))
        self.assertNotEqual(piece, Piece(2, {"x": NUM}, X))
        self.assertNotEqual(piece, Piece(2, {"x": NUM, "go": NUM}, X))
        self.assertNotEqual(piece, Piece(2, {"x": NUM, "go": DO}, GO))
        self.assertNotEqual(piece, Piece(2, {"x": NUM, "go": DO}, ("not", X)))
        self.assertNotEqual(Piece(2, {}, ("never", "num")), Piece(2, {}, ("never", "do")))
        for thing in ODD_VALUES + [Function(2, {"x": NUM, "go": DO}, (), X), X]:
            self.assertFalse(piece == thing)
            self.assertTrue(piece != thing)

    def test_errors_in_their_sequence(self):
        self.assertEqual(part_of(BadNumber, Piece, 1, None, None), "size")
        self.assertEqual(part_of(BadNumber, Piece, True, None, None), "size")
        for names in (None, {"X": NUM}, {word: NUM for word in "abcde"}, [("x", NUM)]):
            with self.assertRaises(BadSort):
                Piece(2, names, None)
        with self.assertRaises(BadTerm) as caught:
            Piece(2, {"x": NUM}, ("not", ("not", GO)))
        self.assertEqual(caught.exception.at, (1, 1))
        self.assertEqual(part_of(BadPiece, Piece, 2, {"v": BOX}, V), "sort")
        self.assertEqual(part_of(BadPiece, Piece, 2, {}, ("made", number(0), "w", SKIP)), "sort")

    def test_names_changed_afterwards(self):
        names = {"x": NUM}
        piece = Piece(2, names, X)
        function = Function(2, names, (), X)
        names["y"] = DO
        names["x"] = DO
        self.assertEqual(piece, Piece(2, {"x": NUM}, X))
        self.assertEqual(function.names, {"x": NUM})
        other = function_of(piece)
        other.names["z"] = DO
        self.assertEqual(piece.names, {"x": NUM})

    def test_free_names(self):
        names = {"x": NUM, "y": NUM, "v": BOX, "go": DO}
        cases = [
            (X, ["x"]), (SKIP, []), (("sum", Y, X), ["x", "y"]),
            (("new", "x", 0, ("get", X)), []),
            (("then", ("new", "x", 0, ("set", X, Y)), X), ["x", "y"]),
            (("get", ("made", X, "x", ("claim", X))), ["x"]),
            (("get", ("made", Y, "x", ("claim", X))), ["y"]),
            (("new", "v", 0, ("get", ("made", X, "v", ("claim", V)))), ["x"]),
            (("set", V, ("get", V)), ["v"]),
        ]
        for term, words in cases:
            self.assertEqual(free_names(Piece(2, names, term)), words, term)
        piece = Piece(2, {"f": (("num", "box"), "do"), "x": NUM}, ("new", "x", 0, name("f", ("get", X), X)))
        self.assertEqual(free_names(piece=piece), ["f"])
        for thing in ODD_VALUES + [Function(2, {}, (), SKIP)]:
            self.assertIsNone(part_of(BadPiece, free_names, thing))


class Functions(unittest.TestCase):
    def test_attributes(self):
        params = (("p", "num"), ("q", "box"))
        function = Function(2, {"x": NUM, "go": DO}, params, ("set", name("q"), name("p")))
        self.assertEqual(function.size, 2)
        self.assertEqual(list(function.names.items()), [("go", DO), ("x", NUM)])
        self.assertEqual(function.params, params)
        self.assertEqual(function.term, ("set", name("q"), name("p")))
        self.assertEqual(function.kind, (("num", "box"), "do"))
        self.assertEqual(Function(size=2, names={"v": BOX}, params=(), term=V).kind, ((), "box"))

    def test_equal(self):
        made = [Function(2, {"x": NUM}, (("p", "num"),), X), Function(3, {"x": NUM}, (("p", "num"),), X),
                Function(2, {"x": NUM, "y": NUM}, (("p", "num"),), X),
                Function(2, {"x": NUM}, (("q", "num"),), X), Function(2, {"x": NUM}, (("p", "do"),), X),
                Function(2, {"x": NUM}, (("p", "num"),), name("p")), Function(2, {"x": NUM}, (), X)]
        for i, one in enumerate(made):
            for j, other in enumerate(made):
                self.assertEqual(one == other, i == j)
        self.assertEqual(made[0], Function(2, {"x": NUM}, (("p", "num"),), X))
        for thing in ODD_VALUES + [Piece(2, {"x": NUM}, X)]:
            self.assertFalse(made[-1] == thing)

    def test_seven_words(self):
        names = {word: NUM for word in "abcd"}
        params = (("p", "num"), ("q", "num"), ("r", "num"))
        self.assertEqual(Function(2, names, params, ("sum", name("a"), name("r"))).kind,
                         (("num",) * 3, "num"))

    def test_errors_in_their_sequence(self):
        self.assertEqual(part_of(BadNumber, Function, 5, None, None, None), "size")
        with self.assertRaises(BadSort):
            Function(2, {"x": "num"}, None, None)
        p = ("p", "num")
        wrong = [None, [], [p], ("p", "num"), (("p",),), (("p", "num", 0),), (["p", "num"],), (("P", "num"),),
                 (("p", NUM),), (("p", "nu"),), (p, p), (p, ("p", "do")), (("x", "num"),), ((1, "num"),),
                 (p, ("q", "num"), ("r", "num"), ("s", "num")), ("pq", "rs"), {"p": "num"},
                 ((["p"], "num"),)]
        for params in wrong:
            self.assertEqual(part_of(BadPiece, Function, 2, {"x": NUM}, params, None), "params", params)
        with self.assertRaises(BadTerm) as caught:
            Function(2, {"x": NUM}, (p,), ("sum", name("p"), name("q")))
        self.assertEqual(caught.exception.at, (2,))
        self.assertEqual(part_of(BadPiece, Function, 2, {"v": BOX}, (p,), V), "sort")
        self.assertEqual(part_of(BadPiece, Function, 2, {}, (("p", "box"),), name("p")), "sort")

    def test_function_of(self):
        piece = Piece(2, {"x": NUM, "y": DO}, ("not", X))
        self.assertEqual(function_of(piece), Function(2, {"x": NUM, "y": DO}, (), ("not", X)))
        self.assertEqual(function_of(piece=piece).kind, NUM)
        for thing in ODD_VALUES + [Function(2, {}, (), SKIP)]:
            self.assertIsNone(part_of(BadPiece, function_of, thing))


class Putting(unittest.TestCase):
    def check(self, piece, word, other, term, names):
        """That both ways of putting give this term, but for own words, and these names."""
        for way in (put_in, put):
            made = way(piece, word, other)
            self.assertIsInstance(made, Piece)
            self.assertEqual(leveled(made.term), leveled(term))
            self.assertEqual(list(made.names.items()), list(names.items()))
            self.assertEqual((made.size, made.kind), (piece.size, piece.kind))
            self.assertEqual(Piece(made.size, made.names, made.term), made)

    def test_each_use_is_exchanged(self):
        piece = Piece(2, {"x": NUM, "y": NUM}, ("sum", X, ("if", Y, X, ("not", X))))
        other = Function(2, {"z": NUM}, (), ("less", name("z"), number(1)))
        body = other.term
        self.check(piece, "x", other, ("sum", body, ("if", Y, body, ("not", body))),
                   {"y": NUM, "z": NUM})
        self.assertEqual(put_in(piece, "x", other).term, ("sum", body, ("if", Y, body, ("not", body))))
        self.assertEqual(put_in(piece=piece, word="x", other=other), put(piece=piece, word="x", other=other))

    def test_arguments_are_put_in_for_parameters(self):
        piece = Piece(2, {"f": (("num", "do", "box"), "num"), "v": BOX, "go": DO},
                      name("f", ("get", V), ("then", GO, GO), V))
        other = Function(2, {}, (("p", "num"), ("q", "do"), ("r", "box")),
                         ("then", name("q"), ("then", ("set", name("r"), name("p")), name("p"))))
        go = ("then", GO, GO)
        self.check(piece, "f", other, ("then", go, ("then", ("set", V, ("get", V)), ("get", V))),
                   {"go": DO, "v": BOX})

    def test_uses_within_arguments_of_uses(self):
        names = {"f": (("num",), "num"), "x": NUM}
        piece = Piece(2, names, name("f", name("f", X)))
        other = Function(2, {}, (("p", "num"),), ("sum", name("p"), name("p")))
        twice = ("sum", X, X)
        self.check(piece, "f", other, ("sum", twice, twice), {"x": NUM})
        other = Function(2, {}, (("p", "num"),), number(1))
        self.check(piece, "f", other, number(1), {"x": NUM})

    def test_arguments_that_have_the_words_of_parameters(self):
        names = {"f": (("num", "num"), "num"), "p": NUM, "q": NUM}
        piece = Piece(2, names, name("f", name("q"), name("p")))
        other = Function(2, {}, (("p", "num"), ("q", "num")), ("less", name("p"), name("q")))
        self.check(piece, "f", other, ("less", name("q"), name("p")), {"p": NUM, "q": NUM})
        piece = Piece(2, names, name("f", name("f", name("q"), name("q")), name("p")))
        self.check(piece, "f", other, ("less", ("less", name("q"), name("q")), name("p")),
                   {"p": NUM, "q": NUM})

    def test_new_boxes_take_no_name_that_is_put_in(self):
        piece = Piece(2, {"x": NUM}, ("new", "b", 0, ("then", ("set", name("b"), number(1)), X)))
        other = Function(2, {"b": NUM}, (), ("not", name("b")))
        made = put_in(piece, "x", other)
        own = made.term[1]
        self.assertNotEqual(own, "b")
        self.assertEqual(made.term, ("new", own, 0, ("then", ("set", name(own), number(1)),
                                                     ("not", name("b")))))
        self.assertEqual(free_names(made), ["b"])

    def test_numbers_of_made_boxes_take_no_name_that_is_put_in(self):
        box = ("made", X, "w", ("set", V, ("sum", name("w"), X)))
        piece = Piece(2, {"x": NUM, "v": BOX}, ("set", box, X))
        other = Function(2, {"w": NUM}, (), name("w"))
        w = name("w")
        self.check(piece, "x", other,
                   ("set", ("made", w, "u", ("set", V, ("sum", name("u"), w))), w), {"v": BOX, "w": NUM})

    def test_words_of_the_body_take_no_name_of_arguments(self):
        piece = Piece(2, {"f": (("num",), "num"), "b": NUM, "c": NUM}, name("f", ("sum", name("b"), name("c"))))
        other = Function(2, {}, (("p", "num"),),
                         ("new", "b", 1, ("sum", name("p"), ("new", "c", 0, ("sum", name("p"), ("sum", (
                             "get", name("b")), ("get", name("c"))))))))
        arg = ("sum", name("b"), name("c"))
        self.check(piece, "f", other,
                   ("new", "k", 1, ("sum", arg, ("new", "l", 0, ("sum", arg, (
                       "sum", ("get", name("k")), ("get", name("l"))))))), {"b": NUM, "c": NUM})

    def test_words_need_not_be_exchanged_where_nothing_is_taken(self):
        term = ("then", ("new", "b", 0, ("set", name("b"), number(1))), X)
        piece = Piece(2, {"x": NUM}, term)
        other = Function(2, {"b": NUM}, (), name("b"))
        self.assertEqual(put_in(piece, "x", other).term, ("then", term[1], name("b")))
        other = Function(2, {"b": NUM}, (), number(1))
        inner = ("new", "b", 0, ("then", ("set", name("b"), X), X))
        self.assertEqual(put_in(Piece(2, {"x": NUM}, inner), "x", other).term,
                         ("new", "b", 0, ("then", ("set", name("b"), number(1)), number(1))))

    def test_more_words_in_one_another_than_there_are_letters(self):
        names = {"g": (("num",), "num")}
        piece = Piece(4, names, ("new", "c", 1, name("g", ("get", name("c")))))
        other = Function(4, names, (("p", "num"),),
                         ("new", "c", 1, name("g", ("sum", name("p"), ("get", name("c"))))))
        for _ in range(60):
            piece = put(piece, "g", other)
        whole = put(piece, "g", Function(4, {}, (("p", "num"),), name("p")))
        words = []
        term = whole.term
        while term[0] == "new":
            words.append(term[1])
            term = term[3]
        self.assertEqual(len(words), 61)
        self.assertEqual(len(set(words)), 61)
        self.assertTrue(all(is_term(4, {}, ("new", word, 0, SKIP)) for word in words))
        self.assertEqual(evaluated(whole, 1000)[:2], ("num", 61 % 4))

    def test_own_words_that_hide_the_name(self):
        piece = Piece(2, {"x": NUM}, ("sum", X, ("new", "x", 1, ("get", X))))
        other = Function(2, {}, (), number(0))
        self.check(piece, "x", other, ("sum", number(0), ("new", "x", 1, ("get", X))), {})
        other = Function(2, {"x": NUM}, (), ("not", X))
        self.check(piece, "x", other, ("sum", ("not", X), ("new", "x", 1, ("get", X))), {"x": NUM})
        hidden = Function(2, {}, (("p", "num"),), ("new", "p", 1, ("get", name("p"))))
        piece = Piece(2, {"f": (("num",), "num"), "x": NUM}, name("f", X))
        self.check(piece, "f", hidden, ("new", "p", 1, ("get", name("p"))), {"x": NUM})

    def test_boxes_are_put_in(self):
        piece = Piece(2, {"v": BOX, "x": NUM}, ("then", ("set", V, X), ("get", V)))
        box = ("made", name("y"), "x", ("claim", ("sum", X, name("z"))))
        other = Function(2, {"y": NUM, "z": NUM}, (), box)
        self.check(piece, "v", other, ("then", ("set", box, X), ("get", box)),
                   {"x": NUM, "y": NUM, "z": NUM})

    def test_the_name_itself_may_come_again(self):
        piece = Piece(2, {"x": NUM}, ("sum", X, X))
        other = Function(2, {"x": DO}, (), ("then", X, number(1)))
        self.check(piece, "x", other, ("sum", other.term, other.term), {"x": DO})

    def test_errors_in_their_sequence(self):
        piece = Piece(2, {"x": NUM, "y": NUM, "go": DO}, X)
        good = Function(2, {}, (), number(1))
        for way in (put_in, put):
            for thing in ODD_VALUES + [good]:
                self.assertIsNone(part_of(BadPiece, way, thing, None, None))
            for word in ("z", "", None, ["x"], {"x": 1}, ("x",), "X", 1):
                self.assertEqual(part_of(BadPiece, way, piece, word, None), "word")
            wrong = ODD_VALUES + [piece, Function(3, {}, (), number(1)), Function(2, {}, (), SKIP),
                                  Function(2, {}, (("p", "num"),), number(1))]
            for other in wrong:
                self.assertEqual(part_of(BadPiece, way, piece, "x", other), "other")
            unlike = Function(2, {"y": DO}, (), number(1))
            self.assertEqual(part_of(BadPiece, way, piece, "x", unlike), "names")
            many = Function(2, {"a": NUM, "b": NUM, "c": NUM}, (), number(1))
            self.assertEqual(part_of(BadPiece, way, piece, "x", many), "names")
            four = Function(2, {"a": NUM, "b": NUM, "y": NUM}, (), number(1))
            self.assertEqual(list(way(piece, "x", four).names), ["a", "b", "go", "y"])

    def test_too_many_nodes_or_too_deep(self):
        piece = Piece(2, {"x": NUM, "y": NUM}, chain(X, 5))
        self.assertEqual(depth_of(put_in(piece, "x", Function(2, {}, (), chain(number(1), 6))).term), 12)
        deep = Function(2, {}, (), chain(number(1), 7))
        with self.assertRaises(TooMany) as caught:
            put_in(piece, "x", deep)
        self.assertEqual(caught.exception.most, 12)
        self.assertEqual(put(piece, "x", deep).term, chain(number(1), 12))
        wide = ("sum", ("sum", X, X), ("sum", X, ("sum", X, X)))
        ten = ("sum", chain(number(0), 4), chain(number(0), 3))
        self.assertEqual(count_nodes(ten), 10)
        self.assertEqual(count_nodes(put_in(Piece(2, {"x": NUM}, wide), "x", Function(2, {}, (), ten)).term), 54)
        eleven, twelve = ("not", ten), ("not", ("not", ten))
        self.assertEqual(count_nodes(put_in(Piece(2, {"x": NUM}, wide), "x", Function(2, {}, (), eleven)).term), 59)
        sixty = ("not", wide)
        made = put_in(Piece(2, {"x": NUM}, sixty), "x", Function(2, {}, (), eleven))
        self.assertEqual(count_nodes(made.term), 60)
        for term, other in ((("not", sixty), eleven), (wide, twelve)):
            with self.assertRaises(TooMany) as caught:
                put_in(Piece(2, {"x": NUM}, term), "x", Function(2, {}, (), other))
            self.assertEqual(caught.exception.most, 60)
            made = put(Piece(2, {"x": NUM}, term), "x", Function(2, {}, (), other))
            self.assertGreater(count_nodes(made.term), 60)

    def test_too_many_nodes_is_told_ahead_of_too_deep_and_behind_names(self):
        wide = ("sum", ("sum", X, X), ("sum", X, chain(X, 6)))
        big = Function(2, {"y": NUM}, (), ("sum", chain(Y, 7), chain(Y, 10)))
        with self.assertRaises(TooMany) as caught:
            put_in(Piece(2, {"x": NUM}, wide), "x", big)
        self.assertEqual(caught.exception.most, 60)
        self.assertEqual(part_of(BadPiece, put_in, Piece(2, {"x": NUM, "y": DO}, wide), "x", big), "names")

    def test_put_gives_pieces_of_any_depth_and_size(self):
        piece = Piece(2, {"x": NUM}, chain(X, 11))
        for _ in range(8):
            piece = put(piece, "x", function_of(piece))
        term, depth = piece.term, 1
        while term != X and depth < 10 ** 5:
            self.assertEqual(term[0], "not")
            term, depth = term[1], depth + 1
        self.assertEqual(depth, 11 * 256 + 1)
        self.assertEqual(free_names(piece), ["x"])

    def test_uses_nested_in_uses_grow_beyond_all_bounds(self):
        term = X
        for _ in range(11):
            term = name("f", term)
        piece = Piece(2, {"f": (("num",), "num"), "x": NUM}, term)
        three = Function(2, {}, (("p", "num"),), ("sum", name("p"), ("sum", name("p"), name("p"))))
        with self.assertRaises(TooMany) as caught:
            put_in(piece, "f", three)
        self.assertEqual(caught.exception.most, 60)
        self.assertEqual(count_nodes(put(piece, "f", three).term), 3 ** 11 + 2 * (3 ** 11 - 1) // 2)

    def test_random_pieces_and_functions(self):
        rng = some(12)
        kinds = [NUM, DO, BOX, (("num",), "num"), (("box", "do"), "do"), (("do", "num"), "num")]
        tried = 0
        while tried < 400:
            size = rng.choice((2, 3))
            kind = rng.choice(kinds)
            names = {"f": kind, "x": NUM, "a": rng.choice((NUM, DO)), "b": BOX}
            more = {"a": names["a"], "b": BOX, "x": NUM}
            if rng.random() < 0.3:
                del more["x"]
            params = tuple(zip(rng.sample(("p", "c", "it"), len(kind[0])), kind[0]))
            inner = {**more, **{word: ((), sort) for word, sort in params}}
            term = random_term(rng, size, names, rng.choice(("num", "do")), 5)
            body = random_term(rng, size, inner, kind[1], 4)
            if max(count_nodes(term), count_nodes(body)) > 60 or depth_of(term) > 12:
                continue
            tried += 1
            piece, other = Piece(size, names, term), Function(size, more, params, body)
            made = put(piece, "f", other)
            self.assertEqual(leveled(made.term), put_by_tags(piece, {"f": other}))
            self.assertEqual(made.names, {"x": NUM, "a": names["a"], "b": BOX})
            self.check_put_in(piece, other, made)

    def check_put_in(self, piece, other, made):
        nodes, depth = count_nodes(made.term), depth_of(made.term)
        if nodes <= 60 and depth <= 12:
            self.assertEqual(put_in(piece, "f", other), made)
            return
        with self.assertRaises(TooMany) as caught:
            put_in(piece, "f", other)
        self.assertEqual(caught.exception.most, 60 if nodes > 60 else 12)

    def test_nothing_handed_in_is_changed(self):
        piece = Piece(2, {"x": NUM}, ("new", "b", 0, X))
        other = Function(2, {"b": NUM}, (), name("b"))
        put_in(piece, "x", other)
        self.assertEqual(piece, Piece(2, {"x": NUM}, ("new", "b", 0, X)))
        self.assertEqual(other, Function(2, {"b": NUM}, (), name("b")))


if __name__ == "__main__":
    unittest.main()
