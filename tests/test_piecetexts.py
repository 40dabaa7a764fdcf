"""Points 80 to 82: texts of pieces and functions, their brackets, and where beginnings go wrong."""

import unittest

from grammar import EVERY, expressions, head, read_by_all_ways, spaced, written
from meanings import SORTS, random_function, random_names, random_piece
from playsalike.errors import BadPiece, BadText, TooMany
from playsalike.pieces import Function, Piece, function_of, made_piece
from playsalike.piecetexts import function_of_text, function_text, next_in_function, next_in_piece, piece_of_text, piece_text
from samples import BOX, DO, NUM, ODD_VALUES, SKIP, depth_of, name, number, some

X, C, V = name("x"), name("c"), name("v")
HEAD = "size 2 | name c do | name f num box do to num | name v box | name x num | does "
NAMES = {"c": DO, "f": (("num", "box", "do"), "num"), "v": BOX, "x": NUM}
WORDS = {"f": "if", "g": "do", "v": "new", "x": "x", "a": "never"}


def worded(names):
    """The names with words some of which are kept."""
    return {WORDS.get(word, word): sort for word, sort in names.items()}


def wrong_at(call, text):
    """Where a text is wrong first, None if it is a text."""
    try:
        call(text)
    except BadText as error:
        return error.at
    except TooMany:
        return None
    return None


class Written(unittest.TestCase):
    def check(self, term, text, names=None):
        names = NAMES if names is None else names
        one = Piece(2, names, term)
        self.assertEqual(piece_text(piece=one).split("| does ", 1)[1], text)
        self.assertEqual(piece_of_text(piece_text(one)), one)

    def test_all_kinds_of_terms(self):
        got = ("get", V)
        made = ("made", X, "n", ("set", V, name("n")))
        for term, text in (
                (number(1), "1"),
                (SKIP, "skip"),
                (("never", "num"), "never num"),
                (("never", "do"), "never do"),
                (X, "x"),
                (C, "c"),
                (name("f", X, V, C), "f(x, v, c)"),
                (name("f", ("sum", X, X), made, ("then", C, C)), "f(x + x, {x, n, v := n}, c; c)"),
                (("sum", ("sum", X, X), X), "x + x + x"),
                (("sum", X, ("sum", X, X)), "x + (x + x)"),
                (("less", ("sum", X, X), X), "x + x - x"),
                (("same", X, X), "x = x"),
                (("below", ("sum", X, X), ("less", X, X)), "x + x < x - x"),
                (("same", ("same", X, X), X), "(x = x) = x"),
                (("sum", X, ("same", X, X)), "x + (x = x)"),
                (("not", ("not", X)), "not not x"),
                (("not", ("sum", X, X)), "not (x + x)"),
                (("sum", ("not", X), ("not", X)), "not x + not x"),
                (("then", C, C), "c; c"),
                (("then", ("then", C, C), C), "(c; c); c"),
                (("then", C, ("then", C, X)), "c; c; x"),
                (("if", X, C, C), "if x then c else c"),
                (("if", ("then", C, X), ("then", C, C), C), "if c; x then c; c else c"),
                (("if", X, C, ("then", C, C)), "if x then c else (c; c)"),
                (("then", ("if", X, C, C), C), "if x then c else c; c"),
                (("sum", ("if", X, X, X), X), "(if x then x else x) + x"),
                (("if", X, X, ("sum", X, X)), "if x then x else x + x"),
                (("if", X, X, ("if", X, X, X)), "if x then x else if x then x else x"),
                (("if", ("if", X, X, X), X, X), "if if x then x else x then x else x"),
                (("while", X, C), "while x do c"),
                (("while", X, ("then", C, C)), "while x do (c; c)"),
                (("then", ("while", X, C), C), "while x do c; c"),
                (("while", ("then", C, X), ("while", X, C)), "while c; x do while x do c"),
                (("claim", ("same", X, X)), "claim x = x"),
                (("claim", ("then", C, X)), "claim (c; x)"),
                (("claim", ("if", X, X, X)), "claim if x then x else x"),
                (got, "!v"),
                (("get", made), "!{x, n, v := n}"),
                (("not", got), "not !v"),
                (("set", V, ("sum", X, X)), "v := x + x"),
                (("set", made, X), "{x, n, v := n} := x"),
                (("set", V, ("then", C, X)), "v := (c; x)"),
                (("then", ("set", V, X), ("get", V)), "v := x; !v"),
                (("set", V, ("if", X, X, X)), "v := if x then x else x"),
                (("new", "b", 1, ("then", ("set", name("b"), X), ("get", name("b")))), "new b = 1 in b := x; !b"),
                (("then", ("new", "b", 0, C), C), "(new b = 0 in c); c"),
                (("then", C, ("new", "b", 0, C)), "c; new b = 0 in c"),
                (("sum", X, ("new", "b", 0, X)), "x + (new b = 0 in x)"),
                (name("f", ("new", "b", 0, X), V, C), "f(new b = 0 in x, v, c)"),
                (("new", "v", 0, ("new", "v", 1, ("get", V))), "new v = 0 in new v = 1 in !v"),
                (("set", ("made", ("then", C, X), "x", ("then", C, C)), X), "{c; x, x, c; c} := x")):
            with self.subTest(text=text):
                self.check(term, text)

    def test_heads(self):
        for size, names, text in ((2, {}, "size 2 | does 0"), (4, {"x": NUM}, "size 4 | name x num | does 0"),
                                  (3, {"v": BOX, "a": DO}, "size 3 | name a do | name v box | does 0"),
                                  (2, {"g": (("do",), "do"), "f": (("num", "box", "do"), "num")},
                                   "size 2 | name f num box do to num | name g do to do | does 0")):
            one = Piece(size, names, number(0))
            self.assertEqual(piece_text(one), text)
            self.assertEqual(piece_of_text(text=text), one)

    def test_functions(self):
        p = name("p")
        for function, text in ((Function(2, {}, (), number(1)), "size 2 | takes | does 1"),
                               (Function(2, {"x": NUM}, (("p", "num"), ("b", "box")), ("sum", p, X)),
                                "size 2 | name x num | takes p num b box | does p + x"),
                               (Function(3, {"v": BOX}, (), V), "size 3 | name v box | takes | does v"),
                               (Function(2, {"if": BOX}, (), name("if")), "size 2 | name if box | takes | does 'if"),
                               (Function(2, {"v": BOX}, (), ("made", ("get", V), "n", ("set", V, name("n")))),
                                "size 2 | name v box | takes | does {!v, n, v := n}"),
                               (Function(2, {}, (("d", "do"), ("to", "num"), ("num", "do")),
                                         ("then", name("d"), name("num"))),
                                "size 2 | takes d do to num num do | does d; num")):
            self.assertEqual(function_text(function=function), text)
            self.assertEqual(function_of_text(text=text), function)

    def test_kept_words_as_names(self):
        for word in ("if", "then", "else", "while", "do", "new", "in", "claim", "not", "skip", "never"):
            self.check(("sum", name(word), number(1)), "'" + word + " + 1", {word: NUM})
            self.check(name(word, X), "'" + word + "(x)", {word: (("num",), "do"), "x": NUM})
            self.check(("set", name(word), ("get", name(word))), "'" + word + " := !'" + word, {word: BOX})
            self.check(("new", word, 1, ("get", name(word))), "new " + word + " = 1 in !'" + word, {})
            self.check(("get", ("made", number(0), word, ("claim", name(word)))),
                       "!{0, " + word + ", claim '" + word + "}", {})
        for word in ("num", "box", "to", "size", "name", "does", "takes"):
            self.check(("sum", name(word), number(1)), word + " + 1", {word: NUM})

    def test_fewest_brackets(self):
        rng = some(800)
        seen = 0
        for _ in range(150):
            one = random_piece(rng, 5, nodes=4, names=worded(random_names(rng, 4)))
            text = piece_text(one)
            self.assertEqual(read_by_all_ways(text), (one.size, one.names, (), one.term, one.kind))
            self.assertNotIn("  ", text)
            for first, last in self.pairs(text):
                without = text[:first] + " " + text[first + 1:last] + " " + text[last + 1:]
                told = read_by_all_ways(without)
                self.assertNotEqual(told, (one.size, one.names, (), one.term, one.kind))
                if told is None:
                    self.assertIsNotNone(wrong_at(piece_of_text, without))
                else:
                    self.assertEqual(piece_of_text(without), Piece(told[0], told[1], told[3]))
                seen += 1
            for _ in range(4):
                other = spaced(rng, head(one.size, one.names) + written(rng, one.term, one.names))
                self.assertGreaterEqual(other.count("("), text.count("("))
        self.assertGreater(seen, 100)

    def pairs(self, text):
        """The places of round brackets and their partners, those of arguments too."""
        waiting, found = [], []
        for at, sign in enumerate(text):
            if sign == "(":
                waiting.append(at)
            if sign == ")":
                found.append((waiting.pop(), at))
        return found

    def test_too_many(self):
        wide = ("sum", ("sum", X, X), ("sum", X, X))
        for _ in range(3):
            wide = ("sum", wide, wide)
        for nodes, term in ((60, self.many(60)), (61, self.many(61)), (63, wide), (65, ("sum", wide, X))):
            one = made_piece(2, {"x": NUM}, term, "num")
            text = "size 2 | name x num | does " + "(" * 20 + self.by_hand(term) + ")" * 20
            if nodes == 60:
                self.assertEqual(piece_of_text(text), one)
                self.assertEqual(piece_of_text(piece_text(one)), one)
                continue
            for call in (lambda: piece_text(one), lambda: function_text(function_of(one)), lambda: piece_of_text(text),
                         lambda: function_of_text(text.replace("| does", "| takes | does"))):
                with self.assertRaises(TooMany) as caught:
                    call()
                self.assertEqual(caught.exception.most, 60)
            self.assertEqual(next_in_piece(text), (True, " +-<="))

    def many(self, nodes):
        """A term of so many nodes, at most 12 deep."""
        terms = [X] * ((nodes + 1) // 2)
        while len(terms) > 1:
            terms = [("sum", *terms[at:at + 2]) if at + 1 < len(terms) else terms[at] for at in range(0, len(terms), 2)]
        return terms[0] if nodes % 2 else ("not", self.many(nodes - 1))

    def by_hand(self, term):
        if term[0] == "name":
            return term[1]
        if term[0] == "not":
            return "not (" + self.by_hand(term[1]) + ")"
        return "(" + self.by_hand(term[1]) + ") + (" + self.by_hand(term[2]) + ")"

    def test_too_deep(self):
        for depth in (12, 13, 20):
            text = "size 2 | name x num | does " + "not " * (depth - 1) + "x"
            if depth == 12:
                self.assertEqual(depth_of(piece_of_text(text).term), 12)
                continue
            term = X
            for _ in range(depth - 1):
                term = ("not", term)
            one = made_piece(2, {"x": NUM}, term, "num")
            for call in (lambda: piece_text(one), lambda: function_text(function_of(one)), lambda: piece_of_text(text)):
                with self.assertRaises(TooMany) as caught:
                    call()
                self.assertEqual(caught.exception.most, 12)

    def test_errors(self):
        for thing in ODD_VALUES + [Function(2, {}, (), SKIP)]:
            with self.assertRaises(BadPiece) as caught:
                piece_text(thing)
            self.assertIsNone(caught.exception.part)
        for thing in ODD_VALUES + [Piece(2, {}, SKIP)]:
            with self.assertRaises(BadPiece) as caught:
                function_text(thing)
            self.assertEqual(caught.exception.part, "function")
        for call in (piece_of_text, function_of_text, next_in_piece, next_in_function):
            for thing in [thing for thing in ODD_VALUES if not isinstance(thing, str)] + [b"size 2", ["size"]]:
                with self.assertRaises(BadText) as caught:
                    call(thing)
                self.assertIsNone(caught.exception.at)


class Read(unittest.TestCase):
    def test_written_otherwise(self):
        rng = some(810)
        for _ in range(200):
            names = worded(random_names(rng, 4))
            one = random_piece(rng, 5, nodes=1, names=names)
            text = spaced(rng, head(one.size, names) + written(rng, one.term, names))
            self.assertEqual(piece_of_text(text), one, text)
            self.assertEqual(read_by_all_ways(text)[3], one.term)
            function = random_function(rng, 2, rng.choice(SORTS), names)
            scope = {**function.names, **{word: ((), plain) for word, plain in function.params}}
            tokens = head(2, function.names, function.params)
            text = spaced(rng, tokens + written(rng, function.term, scope))
            self.assertEqual(function_of_text(text), function, text)

    def test_blanks(self):
        one = Piece(2, {"x": NUM}, ("sum", X, number(1)))
        for text in ("size 2 | name x num | does x + 1", "size2|name x num|does x+1",
                     "  size   2|   name x   num |does x+1  ", "size 2|name x num|does 'x+1",
                     "size 2|name x num|does ' x + 1", "size 2|name x num|does((x)+(1))", "size 2|name x num|does x+1"):
            self.assertEqual(piece_of_text(text), one)
        for text, at in (
                ("size 2|name xnum|does x", 16),
                ("size 2 | namex num | does x", 13),
                ("sizes 2", 4),
                ("size\t2", 4),
                ("size\n2", 4),
                ("size 2 | name x num | does x +\n1", 30),
                ("size 2 | name x num | doesx", 26),
                ("si ze 2", 2),
                ("size 22", 6),
                ("size 2 2", 7)):
            self.assertEqual(wrong_at(piece_of_text, text), at)
        self.assertEqual(piece_of_text("size2|does if1then0else1"), Piece(2, {}, ("if", number(1), number(0),
                                                                                  number(1))))
        set_text = "size 2 | name v box | does v : = 1"
        self.assertEqual(piece_of_text(set_text), piece_of_text(set_text.replace(": =", ":=")))

    def test_where_texts_are_wrong(self):
        for text, at in (
                ("", 0),
                ("x", 0),
                (" size 1", 6),
                ("size 5", 5),
                ("size 2 | does 2", 14),
                ("size 3 | does 2", None),
                ("size 3 | does 3", 14),
                ("size 2 | does", 13),
                ("size 2 | does c", 15),
                ("size 2 | does x", 14),
                (HEAD + "c", None),
                (HEAD + "c +", len(HEAD) + 2),
                (HEAD + "(c; 1) + 1", None),
                (HEAD + "(c) + 1", len(HEAD) + 4),
                (HEAD + "x; c", len(HEAD) + 1),
                (HEAD + "not c", len(HEAD) + 4),
                (HEAD + "1 + (c", len(HEAD) + 6),
                (HEAD + "1 + (c)", len(HEAD) + 6),
                (HEAD + "1 + (c;", len(HEAD) + 7),
                (HEAD + "x x", len(HEAD) + 2),
                (HEAD + "f x", len(HEAD) + 2),
                (HEAD + "f(x)", len(HEAD) + 3),
                (HEAD + "f(x, x", len(HEAD) + 5),
                (HEAD + "f(x, v, x)", len(HEAD) + 8),
                (HEAD + "f(x, v, (x = x))", len(HEAD) + 9),
                (HEAD + "f(x, v, c)", None),
                (HEAD + "f(c, v", len(HEAD) + 3),
                (HEAD + "f(c; x, v, c; c)", None),
                (HEAD + "v", len(HEAD) + 1),
                (HEAD + "v = 1", len(HEAD) + 2),
                (HEAD + "v := c", len(HEAD) + 5),
                (HEAD + "!x", len(HEAD) + 1),
                (HEAD + "!v := 1", len(HEAD) + 3),
                (HEAD + "x = x = x", len(HEAD) + 6),
                (HEAD + "x < x < x", len(HEAD) + 6),
                (HEAD + "(x = x) = x", None),
                (HEAD + "claim c", len(HEAD) + 6),
                (HEAD + "claim x; x", None),
                (HEAD + "claim x; 2", len(HEAD) + 9),
                (HEAD + "if c then", len(HEAD) + 5),
                (HEAD + "if x then c else x", len(HEAD) + 17),
                (HEAD + "if x then x else c", len(HEAD) + 17),
                (HEAD + "if x then c", len(HEAD) + 11),
                (HEAD + "while x do x", len(HEAD) + 11),
                (HEAD + "while c do c", len(HEAD) + 8),
                (HEAD + "never x", len(HEAD) + 6),
                (HEAD + "never box", len(HEAD) + 6),
                (HEAD + "1 + never do", len(HEAD) + 10),
                (HEAD + "new b = 2 in c", len(HEAD) + 8),
                (HEAD + "new b = 1 in b", len(HEAD) + 14),
                (HEAD + "new 'b", len(HEAD) + 4),
                (HEAD + "new b = 1 in !b", None),
                (HEAD + "(new b = 1 in !b) + !b", len(HEAD) + 21),
                (HEAD + "{x, n, c} := n", len(HEAD) + 14),
                (HEAD + "{x, n, n", len(HEAD) + 8),
                (HEAD + "{x, n, v := n}", len(HEAD) + 14),
                (HEAD + "{x, n, v := n} := 1", None),
                (HEAD + "!{x, n, v := n} + 1", None),
                (HEAD + "c; skip; new b = 1 in skip", None),
                (HEAD + "new b = 0 in c; c", None),
                (HEAD + "if", len(HEAD) + 2),
                (HEAD + "'if", len(HEAD) + 1),
                (HEAD + "''x", len(HEAD) + 1),
                (HEAD + "()", len(HEAD) + 1),
                (HEAD + "x()", len(HEAD) + 1),
                (HEAD + "f()", len(HEAD) + 2),
                (HEAD + "c)", len(HEAD) + 1),
                (HEAD + "x |", len(HEAD) + 2),
                (HEAD + "X", len(HEAD)),
                (HEAD + "1 = 1 + 1", None),
                (HEAD + "1 = 1 = 1", len(HEAD) + 6),
                (HEAD + "1 2", len(HEAD) + 2)):
            with self.subTest(text=text):
                self.assertEqual(wrong_at(piece_of_text, text), at)
                self.assertEqual(read_by_all_ways(text) is not None, at is None)
                for end in range(len(text) + 1):
                    if at is None or end <= at:
                        next_in_piece(text[:end])
                    else:
                        self.assertEqual(wrong_at(next_in_piece, text[:end]), at)

    def test_heads_that_are_wrong(self):
        for text, at in (
                ("size 2 | name x num | name a num", 27),
                ("size 2 | name x num | name x num", 28),
                ("size 2 | name x num | name xa num | does 0", None),
                ("size 2 | name abcdefghi", 22),
                ("size 2 | name abcdefgh num | name abcdefgh num", 41),
                ("size 2 | name abcdefgh num | name abcdefgi num | does 0", None),
                ("size 2 | name zzzzzzzz num | n", 29),
                ("size 2 | name zzzzzzzz num | does 1", None),
                ("size 2 | name zzzzzzz num | name zzzzzzzb num | does 1", None),
                ("size 2 | name zz num | name zy", 29),
                ("size 2 | name x | ", 16),
                ("size 2 | name x num do | ", 23),
                ("size 2 | name x num do box num", 27),
                ("size 2 | name x num do box to num | does 0", None),
                ("size 2 | name x num to box", 23),
                ("size 2 | name x to num", 16),
                ("size 2 | name x num to num num", 27),
                ("size 2 | name a num | name b num | name c num | name d num | n", 61),
                ("size 2 | name a num | name b num | name c num | name d num | does d", None),
                ("size 2 | takes", 9),
                ("size 2 name", 7),
                ("size 2 | | does 0", 9),
                ("size 2 | does | does 0", 14),
                ("size 2 | name if num | does 'if", None)):
            with self.subTest(text=text):
                self.assertEqual(wrong_at(piece_of_text, text), at)
        for text, at in (
                ("size 2 | does 0", 9),
                ("size 2 | takes | takes", 17),
                ("size 2 | takes p | ", 17),
                ("size 2 | takes p num p num", 22),
                ("size 2 | takes p num pa num | does p", None),
                ("size 2 | name p num | takes p num", 29),
                ("size 2 | name abcdefgh num | takes abcdefgh num", 42),
                ("size 2 | takes a num b num c num d", 33),
                ("size 2 | takes a num b num c num | does c", None),
                ("size 2 | takes zzzzzzzz num a num | does a", None),
                ("size 2 | takes p box | does p", 29),
                ("size 2 | takes p box | does !p", None),
                ("size 2 | name v box | takes | does v", None),
                ("size 2 | name v box | takes | does (v", 37),
                ("size 2 | name v box | takes | does v; v", 36),
                ("size 2 | name v box | takes | does skip; v", 42),
                ("size 2 | name v box | takes p num | does v", 42),
                ("size 2 | name v box | takes | does v := 1", None),
                ("size 2 | takes | does {0, n, skip}", None),
                ("size 2 | takes | does {0, n, skip} := 1; 1", None),
                ("size 2 | takes | does new b = 0 in b", 36),
                ("size 2 | takes | name", 17),
                ("size 2 | takes does num | does does", None)):
            with self.subTest(text=text):
                self.assertEqual(wrong_at(function_of_text, text), at)
                self.assertEqual(read_by_all_ways(text, False) is not None, at is None)

    def test_long_and_deep_texts(self):
        for many in (50, 3000):
            text = HEAD + "(" * many + "x" + ")" * many
            self.assertEqual(piece_of_text(text).term, X)
            self.assertEqual(wrong_at(piece_of_text, text[:-1]), len(text) - 1)
            self.assertEqual(wrong_at(piece_of_text, text + ")"), len(text))
            for row in ("not " * many + "x", "c; " * many + "x", "x + " * many + "x", "claim " + "if x then " * many,
                        "f(" * many):
                place = wrong_at(piece_of_text, HEAD + row)
                self.assertIn(place, (None, len(HEAD + row)))
                self.assertEqual(len(next_in_piece(HEAD + row)), 2)
            with self.assertRaises(TooMany):
                piece_of_text(HEAD + "c; " * max(many, 60) + "x")


class Next(unittest.TestCase):
    def test_by_hand(self):
        self.assertEqual(next_in_piece(text=""), (False, " s"))
        self.assertEqual(next_in_piece("size"), (False, " 234"))
        self.assertEqual(next_in_piece("size 2"), (False, " |"))
        self.assertEqual(next_in_piece("size 2 |"), (False, " dn"))
        self.assertEqual(next_in_function(text="size 2 |"), (False, " nt"))
        self.assertEqual(next_in_piece("size 2 | name x num"), (False, " |"))
        self.assertEqual(next_in_piece("size 2 | name x num "), (False, " bdnt|"))
        self.assertEqual(next_in_piece("size 2 | name x n"), (False, "u"))
        self.assertEqual(next_in_piece(HEAD), (False, " !'(01cfinsvwx{"))
        self.assertEqual(next_in_piece(HEAD + "c"), (True, " ;l"))
        self.assertEqual(next_in_piece(HEAD + "c "), (True, " ;"))
        self.assertEqual(next_in_piece(HEAD + "x"), (True, " +-<="))
        self.assertEqual(next_in_piece(HEAD + "x = x"), (True, " +-"))
        self.assertEqual(next_in_piece(HEAD + "x + "), (False, " !'(01fnx"))
        self.assertEqual(next_in_piece(HEAD + "1 + (c"), (False, " ;l"))
        self.assertEqual(next_in_piece(HEAD + "v"), (False, " :"))
        self.assertEqual(next_in_piece(HEAD + "v :"), (False, " ="))
        self.assertEqual(next_in_piece(HEAD + "f(x, "), (False, " 'v{"))
        self.assertEqual(next_in_piece(HEAD + "new "), (False, " abcdefghijklmnopqrstuvwxyz"))
        self.assertEqual(next_in_piece(HEAD + "new abcdefgh"), (False, " ="))
        self.assertEqual(next_in_piece("size 2 | does "), (False, " !(01cinsw{"))
        self.assertEqual(next_in_function("size 2 | takes p num"), (False, " |"))

    def test_against_trying_all_signs(self):
        rng = some(820)
        for turn in range(24):
            names = worded(random_names(rng, 4))
            if turn % 2:
                one = random_piece(rng, 4, nodes=2, names=names)
                text, call, after = spaced(rng, head(one.size, names) + written(rng, one.term, names)), piece_of_text, next_in_piece
            else:
                function = random_function(rng, 2, rng.choice(SORTS), names)
                text, call, after = function_text(function), function_of_text, next_in_function
            for end in rng.sample(range(len(text) + 1), min(8, len(text) + 1)):
                begun = text[:end]
                is_text, signs = after(begun)
                self.assertEqual(signs, "".join(sorted(set(signs))))
                self.assertEqual(is_text, wrong_at(call, begun) is None)
                self.assertEqual(is_text, read_by_all_ways(begun, turn % 2 == 1) is not None)
                if end < len(text):
                    self.assertIn(text[end], signs)
                for sign in EVERY:
                    place = wrong_at(call, begun + sign)
                    self.assertEqual(sign in signs, place is None or place == end + 1, (begun, sign))

    def completed(self, begun):
        """Some text that begins so: words are ended, what is opened is closed, and all else is as short as can be."""
        text = begun
        for _ in range(400):
            is_text, signs = next_in_piece(text)
            if is_text:
                return text
            if text[-1].isalpha() and " " in signs:
                text += " "
            else:
                text += next(sign for sign in ")},0stedicvxnuklmohpw;:=('{!" if sign in signs)
        self.fail(begun)

    def test_each_beginning_begins_some_text(self):
        # All beginnings of a few tokens, each one brought to an end, and read by another parser.
        start = "size 2 | name c do | name f num box to num | name v box | name x num | does "
        tokens = ["if", "then", "else", "while", "do", "new", "in", "claim", "not", "skip", "never", "num", "c", "f",
                  "v", "x", "w", "0", "1"]
        tokens += list("();,:=<+-!{}'")
        begun, seen = [start], 0
        for length in range(4):
            further = []
            for text in begun:
                for token in tokens:
                    if wrong_at(next_in_piece, text + token + " ") is None:
                        further.append(text + token + " ")
            sample = further if length < 2 else some(length).sample(further, 150)
            for text in sample:
                whole = self.completed(text)
                self.assertTrue(whole.startswith(text))
                told = read_by_all_ways(whole)
                self.assertIsNotNone(told, whole)
                try:
                    self.assertEqual(piece_of_text(whole).term, told[3])
                except TooMany:
                    continue
                seen += 1
            begun = further
        self.assertGreater(seen, 300)

    def test_all_short_texts_are_read(self):
        # All expressions of a few tokens, put together otherwise: each beginning of them is one.
        scope = {"c": DO, "f": (("num", "box"), "num"), "v": BOX, "x": NUM}
        start = "size 2 | name c do | name f num box to num | name v box | name x num | does "
        seen = {}
        for sort in ("num", "do"):
            for many in range(1, 7):
                rows = expressions(2, scope, sort, many)
                if len(rows) > 700:
                    rows = some(many).sample(rows, 700)
                for row in rows:
                    text = start + " ".join(row)
                    term = piece_of_text(text).term
                    self.assertEqual(read_by_all_ways(text)[3], term)
                    begun = start
                    for token in row:
                        begun += token + " "
                        if begun not in seen:
                            seen[begun] = True
                            next_in_piece(begun)
        self.assertGreater(len(seen), 2500)

    def test_rows_of_tokens_are_texts_exactly_if_they_read(self):
        rng = some(821)
        start = "size 2 | name c do | name v box | name x num | does "
        tokens = ["if", "then", "else", "while", "do", "new", "in", "claim", "not", "skip", "never", "num", "c", "v",
                  "x", "0", "1"] + list("();,:=<+-!{}'")
        right = 0
        for _ in range(4000):
            row = rng.choices(tokens, k=rng.randint(1, 5))
            text = start + " ".join(row)
            told = read_by_all_ways(text)
            self.assertEqual(wrong_at(piece_of_text, text) is None, told is not None, text)
            right += told is not None
        self.assertGreater(right, 40)


if __name__ == "__main__":
    unittest.main()
