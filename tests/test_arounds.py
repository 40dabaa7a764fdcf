"""Point 42: programs around pieces, and the whole programs made of both."""

import unittest

from playsalike.arounds import Around, ended_around, whole_of
from playsalike.errors import BadAround, BadNumber, BadPiece, BadSort, TooMany
from playsalike.evaluating import evaluated
from playsalike.pieces import Function, Piece, function_of, put
from samples import BOX, DO, NUM, ODD_VALUES, SKIP, count_nodes, depth_of, leveled, name, number
from samples import put_tagged, random_term, some, tagged

IT, A, B, X, GO = name("it"), name("a"), name("b"), name("x"), name("go")
BOXES = (("a", 0), ("b", 1))
GIVEN = {"a": BOX, "b": BOX}
NAMES = {"x": NUM, "go": DO}
ENDING = ("if", IT, SKIP, ("never", "do"))


def function(term, params=(), size=2, given=None):
    return Function(size, GIVEN if given is None else given, params, term)


FUNCTIONS = {"x": function(("get", A)), "go": function(("set", A, ("not", ("get", A))))}


def made(**changed):
    """A right program around, but for what is changed."""
    given = {"size": 2, "names": NAMES, "sort": "num", "boxes": BOXES, "functions": FUNCTIONS,
             "ending": ENDING}
    return Around(**{**given, **changed})


class Arounds(unittest.TestCase):
    def check_part(self, part, **changed):
        with self.assertRaises(BadAround) as caught:
            made(**changed)
        self.assertEqual(caught.exception.part, part, changed)

    def test_attributes(self):
        around = Around(2, {"x": NUM, "go": DO}, "num", BOXES, FUNCTIONS, ENDING)
        self.assertEqual(around.size, 2)
        self.assertEqual(list(around.names.items()), [("go", DO), ("x", NUM)])
        self.assertEqual(around.kind, "num")
        self.assertEqual(around.boxes, BOXES)
        self.assertEqual(list(around.functions), ["go", "x"])
        self.assertEqual(around.functions, FUNCTIONS)
        self.assertEqual(around.ending, ENDING)

    def test_equal(self):
        self.assertEqual(made(), made(names={"go": DO, "x": NUM}))
        others = [
            made(size=3, boxes=(), functions={"x": function(number(0), (), 3, {}), "go": function(SKIP, (), 3, {})}),
            made(names={"x": NUM}, functions={"x": FUNCTIONS["x"]}),
            made(sort="do", ending=SKIP), made(ending=SKIP), made(boxes=(("a", 1), ("b", 1))),
            made(functions={**FUNCTIONS, "x": function(number(0))})]
        for other in others + ODD_VALUES:
            self.assertFalse(made() == other)
        bare = Around(2, {}, "num", (), {}, SKIP)
        self.assertEqual(bare, Around(2, {}, "num", (), {}, SKIP))
        self.assertNotEqual(bare, Around(3, {}, "num", (), {}, SKIP))
        self.assertNotEqual(bare, Around(2, {}, "do", (), {}, SKIP))
        self.assertNotEqual(bare, Around(2, {}, "num", (("a", 0),), {}, SKIP))
        self.assertNotEqual(bare, Around(2, {}, "num", (), {}, ("then", SKIP, SKIP)))

    def test_handed_in_and_changed_afterwards(self):
        names, functions = dict(NAMES), dict(FUNCTIONS)
        around = made(names=names, functions=functions)
        names["y"] = NUM
        functions["x"] = None
        self.assertEqual(around, made())

    def test_errors_in_their_sequence(self):
        for size in (1, 5, True, None, "2"):
            with self.assertRaises(BadNumber) as caught:
                made(size=size, names=None)
            self.assertEqual(caught.exception.part, "size")
        for names in (None, {"X": NUM}, {"x": "num"}, [], {word: NUM for word in "defgh"}):
            with self.assertRaises(BadSort):
                made(names=names, sort=None)
        self.check_part("sort", sort="box", boxes=None, functions=None, ending=None)
        self.check_part("boxes", boxes=None, functions=None, ending=None)
        self.check_part("functions", functions=None, ending=None)
        self.check_part("ending", ending=None)

    def test_sort(self):
        for sort in ODD_VALUES:
            if sort not in ("num", "do"):
                self.check_part("sort", sort=sort)

    def test_boxes(self):
        wrong = [[], [("a", 0)], (["a", 0],), ("a", 0), (("a", 2),), (("a", -1),), (("a", True),), (("a",),),
                 (("a", 0, 0),), (("A", 0),), (("", 0),), ((0, "a"),), (("b", 0), ("a", 0)), (("a", 0), ("a", 0)),
                 (("a", 0), ("a", 1)), (("x", 0),), (("go", 0),), (("it", 0),), (("a", 0.0),), None, {"a": 0},
                 (("a", 0), ("b", 0), ("c", 0), ("d", 0)), ((["a"], 0),)]
        for boxes in wrong:
            self.check_part("boxes", boxes=boxes)
        three = (("a", 0), ("b", 1), ("c", 1))
        given = {word: BOX for word in "abc"}
        functions = {"x": function(("get", name("c")), (), 2, given), "go": function(SKIP, (), 2, given)}
        self.assertEqual(made(boxes=three, functions=functions).boxes, three)

    def test_functions(self):
        wrong = [None, [], {}, {"x": FUNCTIONS["x"]}, {**FUNCTIONS, "y": FUNCTIONS["x"]},
                 {"x": FUNCTIONS["x"], "y": FUNCTIONS["go"]}, list(FUNCTIONS.items()), ("x", "go")]
        bad = ODD_VALUES + [Piece(2, GIVEN, ("get", A)), function(("get", A), (), 3), function(SKIP),
                            function(number(0), (("p", "num"),)), function(number(0), (), 2, {}),
                            function(("get", A), (), 2, {"a": BOX}), function(number(0), (), 2, {**GIVEN, "c": BOX}),
                            function(number(0), (), 2, {**GIVEN, "x": NUM}), function(number(0), (), 2, {"a": BOX, "b": NUM}),
                            function(("then", ("claim", number(1)), number(0))),
                            function(("if", ("get", A), number(0), ("get", ("made", number(1), "w", (
                                "claim", name("w"))))))]
        for functions in wrong + [{**FUNCTIONS, "x": thing} for thing in bad]:
            self.check_part("functions", functions=functions)

    def test_functions_of_all_sorts(self):
        names = {"f": (("num", "box"), "num"), "v": BOX}
        params = (("p", "num"), ("q", "box"))
        functions = {"f": function(("then", ("set", name("q"), name("p")), ("get", name("q"))), params),
                     "v": function(("made", ("get", A), "w", ("set", B, name("w"))))}
        around = made(names=names, functions=functions)
        self.assertEqual(around.functions, functions)
        self.check_part("functions", names=names, functions={**functions, "v": function(("get", A))})

    def test_ending(self):
        chain = SKIP
        for _ in range(12):
            chain = ("then", chain, SKIP)
        wrong = [thing for thing in ODD_VALUES if thing != ("skip",)]
        wrong += [IT, ("claim", IT), ("then", ("claim", number(1)), SKIP), ("get", A), A, X, GO,
                  ("set", name("c"), IT), name("it", IT), ("if", ("get", IT), SKIP, SKIP), chain]
        for ending in wrong:
            self.check_part("ending", ending=ending)
        self.check_part("ending", sort="do", ending=("if", IT, SKIP, SKIP))
        self.assertEqual(made(sort="do", ending=IT).ending, IT)
        self.assertEqual(made(ending=("set", B, IT)).ending, ("set", B, IT))

    def test_whole_of(self):
        piece = Piece(2, NAMES, ("then", GO, X))
        around = made(ending=("if", IT, ("set", B, IT), SKIP))
        inner = ("then", ("set", A, ("not", ("get", A))), ("get", A))
        whole = whole_of(piece, around)
        self.assertEqual(leveled(whole.term), leveled(("new", "a", 0, ("new", "b", 1, (
            "if", inner, ("set", B, inner), SKIP)))))
        self.assertEqual((whole.size, whole.names, whole.kind), (2, {}, "do"))
        self.assertIsInstance(whole, Piece)
        self.assertEqual(whole, whole_of(piece=piece, around=around))
        self.assertEqual(Piece(2, {}, whole.term), whole)

    def test_words_that_meet(self):
        names = {"it": NUM, "x": NUM}
        around = made(names=names, functions={"it": function(("get", A)), "x": function(("get", B))},
                      ending=("new", "a", 1, ("new", "b", 0, ("set", A, ("sum", IT, ("get", B))))))
        piece = Piece(2, names, ("new", "a", 1, ("sum", X, ("sum", IT, ("get", A)))))
        wanted = ("new", "a", 0, ("new", "b", 1, ("new", "k", 1, ("new", "l", 0, ("set", name("k"), ("sum", (
            "new", "m", 1, ("sum", ("get", B), ("sum", ("get", A), ("get", name("m"))))), ("get", name("l"))))))))
        self.assertEqual(leveled(whole_of(piece, around).term), leveled(wanted))

    def test_the_ending_may_hide_it(self):
        around = made(ending=("new", "it", 0, ("set", A, ("get", IT))))
        piece = Piece(2, NAMES, X)
        self.assertEqual(leveled(whole_of(piece, around).term), leveled(("new", "a", 0, ("new", "b", 1, (
            "new", "it", 0, ("set", A, ("get", IT)))))))

    def test_numbers_of_made_boxes_that_meet(self):
        piece = Piece(2, NAMES, ("then", ("set", ("made", X, "a", ("claim", ("sum", A, X))), X), X))
        x = ("get", A)
        wanted = ("new", "a", 0, ("new", "b", 1, ("while", ("then", ("set", (
            "made", x, "k", ("claim", ("sum", name("k"), x))), x), x), SKIP)))
        whole = whole_of(piece, made(ending=("while", IT, SKIP)))
        self.assertEqual(leveled(whole.term), leveled(wanted))

    def test_ended_around(self):
        piece = Piece(2, NAMES, ("then", GO, X))
        self.assertEqual(ended_around(piece, made(), 100), evaluated(whole_of(piece, made()), 100))
        self.assertEqual(ended_around(piece=piece, around=made(), steps=100)[:2], ("do", 0))
        self.assertEqual(ended_around(piece, made(), 5), ("on", 0, 5))
        self.assertEqual(ended_around(Piece(2, NAMES, X), made(), 1000), ("on", 0, 1000))
        broken = Piece(2, NAMES, ("then", ("claim", X), X))
        self.assertEqual(ended_around(broken, made(), 100)[:2], ("broken", 0))

    def test_errors_of_both_in_their_sequence(self):
        piece, around = Piece(2, NAMES, X), made()
        for call in (whole_of, lambda one, other: ended_around(one, other, None)):
            for thing in ODD_VALUES + [FUNCTIONS["x"], around]:
                with self.assertRaises(BadPiece) as caught:
                    call(thing, None)
                self.assertIsNone(caught.exception.part)
            for thing in ODD_VALUES + [piece]:
                with self.assertRaises(BadAround) as caught:
                    call(piece, thing)
                self.assertIsNone(caught.exception.part)
            for unlike in (Piece(3, NAMES, X), Piece(2, {"x": NUM}, X), Piece(2, {**NAMES, "y": NUM}, X),
                           Piece(2, {"x": NUM, "go": NUM}, X), Piece(2, NAMES, GO)):
                with self.assertRaises(BadPiece) as caught:
                    call(unlike, around)
                self.assertEqual(caught.exception.part, "kind")

    def test_steps(self):
        for steps in (0, -1, 10 ** 6 + 1, True, 1.0, None, "1"):
            with self.assertRaises(BadNumber) as caught:
                ended_around(Piece(2, NAMES, X), made(), steps)
            self.assertEqual(caught.exception.part, "steps")

    def test_at_most_twenty_thousand_nodes(self):
        piece = Piece(2, {"x": NUM}, row(X, 11, X))
        for more in (11, 11):
            piece = put(piece, "x", function_of(Piece(2, {"x": NUM}, row(X, more, X))))
        uses = count_uses(piece.term)
        nodes = count_nodes(piece.term)
        around = made(names={"x": NUM}, functions={"x": function(number(1))}, ending=("while", IT, SKIP))
        rest = 2 + 2
        self.assertEqual(count_nodes(whole_of(piece, around).term), nodes + rest)
        body = number(1)
        while nodes + rest + uses * count_nodes(body) - uses < 20000:
            body = ("not", body)
        functions = {"x": function(body)}
        with self.assertRaises(TooMany) as caught:
            whole_of(piece, made(names={"x": NUM}, functions=functions, ending=("while", IT, SKIP)))
        self.assertEqual(caught.exception.most, 20000)
        with self.assertRaises(TooMany):
            ended_around(piece, made(names={"x": NUM}, functions=functions, ending=("while", IT, SKIP)), 1)
        with self.assertRaises(BadNumber):
            ended_around(piece, made(names={"x": NUM}, functions=functions, ending=("while", IT, SKIP)), 0)

    def test_just_twenty_thousand_nodes(self):
        around = made(names={}, functions={}, ending=IT, sort="do")
        for many, fits in ((19998, True), (19999, False)):
            piece = grown_to(many)
            self.assertEqual(count_nodes(piece.term), many)
            if fits:
                self.assertEqual(count_nodes(whole_of(piece, around).term), 20000)
            else:
                with self.assertRaises(TooMany):
                    whole_of(piece, around)

    def test_random_ones_against_a_second_way_of_putting(self):
        rng = some(42)
        for _ in range(300):
            names = {"x": NUM, "f": (("num", "box"), "do"), "v": BOX, "it": DO}
            sort = rng.choice(("num", "do"))
            term = random_term(rng, 2, names, sort, 5)
            bodies = {}
            for word, (taken, given) in names.items():
                params = tuple(zip(("p", "q"), taken))
                inner = {**GIVEN, **{param: ((), plain) for param, plain in params}}
                bodies[word] = Function(2, GIVEN, params, random_term(rng, 2, inner, given, 4, False))
            ending = random_term(rng, 2, {**GIVEN, "it": ((), sort)}, "do", 5, False)
            if max(count_nodes(term), count_nodes(ending)) > 60 or max(depth_of(term), depth_of(ending)) > 12:
                continue
            piece = Piece(2, names, term)
            around = Around(2, names, sort, BOXES, bodies, ending)
            whole = whole_of(piece, around)
            self.assertEqual(leveled(whole.term), whole_by_tags(piece, around))
            self.assertEqual(ended_around(piece, around, 200), evaluated(whole, 200))


def whole_by_tags(piece, around):
    """What whole_of should tell, own words told by levels."""
    tags = []
    bodies = {word: ([param for param, _ in function.params], tagged(function.term, {}, tags))
              for word, function in around.functions.items()}
    inner = put_tagged(tagged(piece.term, {}, tags), bodies)
    term = put_tagged(tagged(around.ending, {}, tags), {"it": ([], inner)})
    for word, n in reversed(around.boxes):
        term = ("new", word, n, term)
    return leveled(term)


def row(first, many, last):
    """A sum of so many times first, and last."""
    term = last
    for _ in range(many):
        term = ("sum", first, term)
    return term


def count_uses(term):
    """How many uses of names stand in a term of sums."""
    return 1 if term[0] == "name" else sum(count_uses(part) for part in term[1:] if isinstance(part, tuple))


def grown_to(many):
    """A piece of sort do, without names, of just so many nodes: of two halves."""
    if many == 1:
        return Piece(2, {}, SKIP)
    if many == 2:
        return Piece(2, {}, ("claim", number(1)))
    half = (many - 1) // 2
    piece = Piece(2, {"x": DO, "y": DO}, ("then", name("x"), name("y")))
    piece = put(piece, "x", function_of(grown_to(half)))
    return put(piece, "y", function_of(grown_to(many - 1 - half)))


if __name__ == "__main__":
    unittest.main()
