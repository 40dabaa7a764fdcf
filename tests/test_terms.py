"""Point 11: terms, their sorts, and the place of the first wrong piece."""

import unittest

from playsalike.errors import BadNumber, BadSort, BadTerm
from playsalike.terms import is_term, sort_of
from samples import BOX, DO, NUM, ODD_VALUES, SKIP, count_nodes, depth_of, every_place, name
from samples import number, random_term, some, term_parts

NAMES = {"x": NUM, "go": DO, "v": BOX, "f": (("num", "do", "box"), "num")}
X, GO, V = name("x"), name("go"), name("v")
RIGHT = [
    (number(0), "num"), (number(1), "num"), (SKIP, "do"), (("never", "num"), "num"),
    (("never", "do"), "do"), (X, "num"), (GO, "do"), (V, "box"),
    (name("f", X, GO, V), "num"), (("sum", X, X), "num"), (("less", X, X), "num"),
    (("same", X, number(1)), "num"), (("below", X, X), "num"), (("not", X), "num"),
    (("then", GO, X), "num"), (("then", GO, SKIP), "do"), (("if", X, X, number(1)), "num"),
    (("if", X, GO, SKIP), "do"), (("while", X, GO), "do"), (("get", V), "num"),
    (("set", V, X), "do"), (("new", "b", 1, ("get", name("b"))), "num"),
    (("new", "b", 0, ("set", name("b"), X)), "do"), (("made", X, "w", GO), "box"),
    (("made", X, "w", ("claim", name("w"))), "box"), (("claim", X), "do"),
    (("new", "x", 0, ("get", name("x"))), "num"), (("new", "f", 0, ("get", name("f"))), "num"),
    (("get", ("made", X, "v", ("set", ("made", X, "x", SKIP), name("v")))), "num"),
]


def wrong_place(term, names=None, size=2):
    """The place that BadTerm tells, None for a term."""
    try:
        sort_of(size, NAMES if names is None else names, term)
    except BadTerm as error:
        return error.at
    return None


def chain(many):
    """A term of sort num that is so deep, of so many nodes."""
    term = number(0)
    for _ in range(many - 1):
        term = ("not", term)
    return term


def row(many):
    """A term of just so many nodes that is not deep."""
    if many == 1:
        return number(1)
    if many == 2:
        return ("not", number(1))
    half = (many - 1) // 2
    return ("sum", row(half), row(many - 1 - half))


class Terms(unittest.TestCase):
    def check_wrong(self, term, at, names=None, size=2):
        self.assertEqual(wrong_place(term, names, size), at, term)
        self.assertIs(is_term(size, NAMES if names is None else names, term), False)

    def test_right_ones(self):
        for term, sort in RIGHT:
            self.assertEqual(sort_of(2, NAMES, term), sort)
            self.assertIs(is_term(2, NAMES, term), True)
            self.assertEqual(sort_of(size=2, names=NAMES, term=term), sort)
            self.assertIs(is_term(size=2, names=NAMES, thing=term), True)

    def test_size_and_names_are_judged_first(self):
        for size in (0, 1, 5, True, 2.0, "2", None, (2,)):
            for judge in (is_term, sort_of):
                with self.assertRaises(BadNumber) as caught:
                    judge(size, None, None)
                self.assertEqual(caught.exception.part, "size")

    def test_names_are_a_dict_of_at_most_four_words_with_sorts(self):
        five = {word: NUM for word in "abcde"}
        wrong = [None, [], (), "x", five, {"": NUM}, {"X": NUM}, {"abcdefghi": NUM}, {1: NUM},
                 {"x": "num"}, {"x": [(), "num"]}, {"x": (("num",), "box")}, {"x": None},
                 {("x",): NUM}, {"x": ((), "num", 0)}, [("x", NUM)]]
        for names in wrong:
            for judge in (is_term, sort_of):
                with self.assertRaises(BadSort):
                    judge(2, names, None)
        self.assertTrue(is_term(2, {word: NUM for word in "abcd"}, SKIP))

    def test_any_value(self):
        right = [("skip",), ("number", 0)]
        for thing in ODD_VALUES:
            self.assertIs(is_term(2, NAMES, thing), thing in right, thing)
            if thing not in right:
                self.check_wrong(thing, ())

    def test_sizes_bound_numbers(self):
        for size in (2, 3, 4):
            self.assertTrue(is_term(size, {}, number(size - 1)))
            for n in (size, -1, True, 0.0, "0", None):
                self.check_wrong(number(n), (), {}, size)
                self.check_wrong(("new", "b", n, SKIP), (), {}, size)

    def test_wrong_shapes(self):
        wrong = [("skip", 1), ("skip", ()), ("number",), ("number", 0, 0), ("never",),
                 ("never", "box"), ("never", ("num",)), ("never", None), ("name", "x"), ("name",),
                 ("name", "x", []), ("name", "x", (X,)), ("name", "q", ()), ("name", "X", ()),
                 ("name", ("x",), ()), ("name", "x", (), ()), ("name", "f", (X, GO)),
                 ("name", "f", [X, GO, V]), ("name", "f", (X, GO, V, V)), ("sum", X), ("sum", X, X, X),
                 ("not",), ("not", X, X), ("then", GO), ("if", X, GO), ("while", X), ("get",),
                 ("set", V), ("new", "b", 0), ("new", "", 0, X), ("new", "b", X), ("new", 0, "b", X),
                 ("new", "B", 0, X), ("new", "abcdefghi", 0, X), ("new", ["b"], 0, X),
                 ("made", X, "w"), ("made", X, "", GO), ("made", X, 0, GO), ("claim",),
                 ("claim", X, X), ("plus", X, X), (("sum",), X, X), (None,), ["sum", X, X], (1, X),
                 ("Sum", X, X), ("made", "w", X, GO), (["sum"], X, X), ({}, X), ("name", ["x"], ()),
                 ("name", {"x": 1}, ()), ("never", ["num"]), ("new", {}, 0, X), ("number", [0])]
        for term in wrong:
            self.check_wrong(term, ())
            self.check_wrong(("then", term, X), (1,))

    def test_parts_of_another_sort_than_wanted(self):
        wrong = [
            (("sum", GO, X), (1,)), (("sum", X, GO), (2,)), (("less", V, X), (1,)),
            (("same", X, V), (2,)), (("below", SKIP, X), (1,)), (("not", GO), (1,)),
            (("then", X, GO), (1,)), (("then", GO, V), (2,)), (("if", GO, X, X), (1,)),
            (("if", X, V, V), (2,)), (("if", X, GO, X), (3,)), (("if", X, X, GO), (3,)),
            (("if", X, X, V), (3,)), (("while", GO, GO), (1,)), (("while", X, X), (2,)),
            (("get", X), (1,)), (("set", X, X), (1,)), (("set", V, GO), (2,)),
            (("new", "b", 0, name("b")), (3,)), (("made", GO, "w", GO), (1,)),
            (("made", X, "w", X), (3,)), (("claim", GO), (1,)), (name("f", GO, GO, V), (2, 0)),
            (name("f", X, X, V), (2, 1)), (name("f", X, GO, X), (2, 2)),
        ]
        for term, at in wrong:
            self.check_wrong(term, at)

    def test_words_mean_the_new_box_or_the_number_within_alone(self):
        self.check_wrong(("new", "x", 0, X), (3,))
        self.check_wrong(("new", "f", 0, name("f", X, GO, V)), (3,))
        self.check_wrong(("then", ("new", "b", 0, SKIP), ("get", name("b"))), (2, 1))
        self.check_wrong(("get", ("made", name("w"), "w", SKIP)), (1, 1))
        self.check_wrong(("get", ("made", X, "v", ("set", V, X))), (1, 3, 1))
        self.assertTrue(is_term(2, NAMES, ("get", ("made", ("get", V), "v", ("claim", V)))))

    def test_the_first_of_several_wrong_pieces(self):
        bad = ("number", 9)
        cases = [
            (("sum", ("not", bad), bad), (1, 1)),       # each part is looked through whole
            (("sum", ("not", GO), bad), (1, 1)),        # a wrong sort ahead of what comes behind
            (("sum", ("then", GO, SKIP), bad), (1,)),   # the sort of a part ahead of the next part
            (("sum", ("then", bad, SKIP), bad), (1, 1)),  # what is in it ahead of its sort
            (("number", bad), ()),                      # its own shape ahead of its parts
            (("new", "b", 9, bad), ()),
            (name("f", bad, bad), ()),
            (name("f", X, ("not", bad), bad), (2, 1, 1)),
            (("if", X, V, bad), (2,)),
            (("if", bad, V, bad), (1,)),
            (("made", GO, "w", bad), (1,)),
            (("set", name("f", X, GO, ("made", X, "w", X)), bad), (1, 2, 2, 3)),
        ]
        for term, at in cases:
            self.check_wrong(term, at)

    def test_at_most_sixty_nodes(self):
        self.assertEqual(count_nodes(row(60)), 60)
        self.assertTrue(is_term(2, {}, row(60)))
        self.assertEqual(count_nodes(row(61)), 61)
        self.check_wrong(row(61), self.sixty_first(row(61)))
        self.check_wrong(("then", SKIP, row(63)), self.sixty_first(("then", SKIP, row(63))))

    def test_the_sixty_first_node_ahead_of_what_is_wrong_behind_it(self):
        term = ("sum", row(59), GO)
        self.check_wrong(term, (2,))
        self.check_wrong(("sum", row(60), GO), self.sixty_first(("sum", row(60), GO)))
        self.check_wrong(("sum", row(58), ("not", ("not", ("number", 9)))), (2, 1))
        self.check_wrong(("sum", ("not", ("number", 9)), row(60)), (1, 1))

    def sixty_first(self, term):
        return every_place(term)[60]

    def test_at_most_twelve_deep(self):
        self.assertEqual(depth_of(chain(12)), 12)
        self.assertTrue(is_term(2, {}, chain(12)))
        self.check_wrong(chain(13), (1,) * 12)
        self.check_wrong(chain(14), (1,) * 12)
        self.check_wrong(chain(100000), (1,) * 12)
        self.check_wrong(("not", ("then", SKIP, chain(11))), (1, 2) + (1,) * 10)
        deep = number(0)
        for _ in range(12):
            deep = name("f", deep, GO, V)
        self.check_wrong(deep, (2, 0) * 12)

    def test_terms_that_share_parts_are_looked_through_no_farther_than_sixty_nodes(self):
        term = number(1)
        for _ in range(11):
            term = ("sum", term, term)
        self.check_wrong(term, every_place(term)[60])

    def test_random_terms_are_terms_and_spoiled_ones_are_not(self):
        rng = some(11)
        for _ in range(600):
            size = rng.choice((2, 3, 4))
            sort = rng.choice(("num", "do", "box"))
            term = random_term(rng, size, NAMES, sort, 5)
            if count_nodes(term) > 60:
                continue
            self.assertEqual(sort_of(size, NAMES, term), sort)
            at = rng.choice(every_place(term))
            self.check_wrong(spoiled(term, at), at, size=size)

    def test_nothing_handed_in_is_changed(self):
        names = {"z": NUM, "a": BOX}
        sort_of(2, names, ("new", "z", 0, ("get", name("z"))))
        self.assertEqual(list(names.items()), [("z", NUM), ("a", BOX)])


def spoiled(term, at):
    """The term with what is no term at this place."""
    if at == ():
        return ("no", "term")
    for path, part in term_parts(term):
        if at[:len(path)] == path:
            things = list(term)
            if len(path) == 1:
                things[path[0]] = spoiled(part, at[1:])
            else:
                args = list(term[2])
                args[path[1]] = spoiled(part, at[2:])
                things[2] = tuple(args)
            return tuple(things)
    raise AssertionError(at)


if __name__ == "__main__":
    unittest.main()
