"""Points 51 and 54: places and exchanged terms once more, and the least terms that do the same."""

import unittest

from meanings import random_piece
from playsalike.alike import same
from playsalike.errors import BadNumber, BadPiece, TooMany
from playsalike.leastterms import least_same
from playsalike.pieces import Piece, free_names, function_of
from playsalike.places import exchanged, names_at, part_at, places
from playsalike.rewriting import matched, rewritten
from playsalike.rules import Rule, is_right
from playsalike.smallpieces import all_terms, classes
from samples import BOX, DO, NUM, ODD_VALUES, SKIP, count_nodes, every_place, name, number, some, too_great
from smallterms import up_to

X, V, GO = name("x"), name("v"), name("go")


def piece(term, names, size=2):
    return Piece(size, names, term)


def is_box(names, part):
    return part[0] == "made" or part[0] == "name" and names[part[1]] == BOX


class LeastSame(unittest.TestCase):
    def test_by_hand(self):
        names = {"x": NUM, "v": BOX, "go": DO}
        for term, wanted in (
                (X, X),
                (("sum", X, number(0)), X),
                (("sum", number(1), X), ("not", X)),
                (("not", ("not", X)), X),
                (("if", X, number(1), number(0)), X),
                (("while", number(1), GO), ("never", "do")),
                (("then", SKIP, GO), GO),
                (("less", X, X), ("less", X, X)),
                (("sum", X, X), ("less", X, X)),
                (("same", X, number(0)), ("not", X)),
                (("get", V), ("get", V)),
                (("new", "b", 1, ("sum", ("get", name("b")), X)), ("not", X)),
                (("never", "num"), ("never", "num")),
                (("then", GO, ("then", GO, GO)), None),
                (("claim", ("not", ("not", X))), ("claim", X)),
                (("claim", number(0)), ("claim", number(0))),
                (("then", GO, ("never", "num")), ("never", "num")),
                (("set", V, ("get", V)), ("set", V, ("get", V)))):
            self.assertEqual(least_same(piece(term, names), 4), wanted)

    def test_bounds_of_nodes(self):
        names = {"x": NUM}
        one = piece(("not", ("less", X, X)), names)
        self.assertEqual([least_same(one, nodes) for nodes in (1, 2, 3, 4)], [None, None, ("same", X, X),
                                                                              ("same", X, X)])
        one = piece(("sum", X, ("sum", X, X)), names)
        self.assertIsNone(least_same(piece=one, nodes=4))

    def test_beside_the_list_of_all_terms(self):
        rng = some(540)
        seen = {}
        for size, names in ((2, {}), (2, {"x": NUM}), (2, {"b": BOX}), (2, {"a": DO, "x": NUM}), (3, {"x": NUM}),
                            (2, {"f": (("num",), "num")}),
                            (2, {"f": (("box", "do"), "num"), "v": BOX})):
            for kind in ("num", "do"):
                every = up_to(size, names, kind, 4)
                if len(every) > 2000:
                    every = up_to(size, names, kind, 3)
                nodes = count_nodes(every[-1])
                pieces = [Piece(size, names, rng.choice(every)) for _ in range(6)]
                pieces += [random_piece(rng, 4, names=names, size=size, kind=kind, nodes=3) for _ in range(4)]
                for one in pieces:
                    wanted = next((term for term in every if same(Piece(size, names, term), one)), None)
                    self.assertEqual(least_same(one, nodes), wanted, (one.names, one.term))
                    key = None if wanted is None else count_nodes(wanted)
                    seen[key] = seen.get(key, 0) + 1
        self.assertGreater(min(seen.get(key, 0) for key in (None, 1, 2, 3, 4)), 2)

    def test_new_and_made_ones_among_the_least(self):
        # No other term of four nodes keeps what was heard, or lets an argument be read and set as it likes.
        names = {"f": (("box",), "num")}
        for term in (("new", "a", 0, name("f", name("a"))), ("new", "a", 1, name("f", name("a"))),
                     name("f", ("made", number(0), "a", SKIP)), name("f", ("made", number(1), "a",
                                                                           ("claim", name("a"))))):
            nodes = min(4, count_nodes(term))
            if count_nodes(term) <= 4:
                self.assertEqual(least_same(piece(term, names), nodes), term)
            else:
                self.assertIsNone(least_same(piece(term, names), nodes))
        other = piece(("new", "q", 0, name("f", name("q"))), names)
        self.assertEqual(least_same(other, 4), ("new", "a", 0, name("f", name("a"))))
        taken = piece(("new", "q", 0, name("f", name("q"))), {**names, "a": NUM})
        self.assertEqual(least_same(taken, 4), ("new", "b", 0, name("f", name("b"))))

    def test_parts_of_least_terms_are_least(self):
        for names in ({"x": NUM}, {"x": NUM, "v": BOX}):
            for lot in classes(2, names, "num", 3):
                least = least_same(Piece(2, names, lot[-1]), 3)
                self.assertEqual(least, lot[0])
                one = Piece(2, names, least)
                for at in every_place(least):
                    part = part_at(one, at)
                    inner = names_at(one, at)
                    if not is_box(inner, part):
                        self.assertEqual(least_same(Piece(2, inner, part), 3), part)

    def test_more_than_3000_terms(self):
        for size, names, nodes in ((4, {word: NUM for word in "abcd"}, 4), (4, {word: (("num", "num", "num"), "num")
                                                                                for word in "abcd"}, 4)):
            one = Piece(size, names, ("sum", ("sum", self.use(names), number(1)), ("sum", self.use(names),
                                                                                   self.use(names))))
            try:
                self.assertIsNone(least_same(one, nodes))
            except TooMany as error:
                self.assertEqual(error.most, 3000)
            self.assertEqual(least_same(Piece(size, names, ("sum", self.use(names), number(0))), nodes),
                             self.use(names))
        with self.assertRaises(TooMany):
            all_terms(4, {word: NUM for word in "abcd"}, "num", 4)

    def use(self, names):
        return name("a", *[number(0) for _ in names["a"][0]])

    def test_errors_in_their_sequence(self):
        one = piece(X, {"x": NUM})
        for thing in ODD_VALUES + [function_of(one)]:
            with self.assertRaises(BadPiece) as caught:
                least_same(thing, None)
            self.assertIsNone(caught.exception.part)
        for nodes in (None, 0, 5, -1, True, 1.0, "1"):
            with self.assertRaises(BadNumber) as caught:
                least_same(one, nodes)
            self.assertEqual(caught.exception.part, "nodes")
        with self.assertRaises(TooMany) as caught:
            least_same(too_great({"x": NUM}), 1)
        self.assertEqual(caught.exception.most, 2000)


class PlacesAndRules(unittest.TestCase):
    def test_a_least_term_may_stand_wherever_the_part_stands(self):
        rng = some(541)
        tried = 0
        while tried < 60:
            one = random_piece(rng, 5, names={"x": NUM, "v": BOX, "go": DO}, size=2, nodes=5)
            at = rng.choice(places(one))
            names, part = names_at(one, at), part_at(one, at)
            if len(names) > 4 or is_box(names, part):
                continue
            inner = Piece(2, names, part)
            least = least_same(inner, 3)
            if least is None:
                continue
            tried += 1
            made = exchanged(one, at, least)
            self.assertTrue(same(made, one))
            self.assertEqual(part_at(made, at), least)

    def test_a_rule_of_a_part_leads_where_exchanging_leads(self):
        rng = some(542)
        names = {"x": NUM, "y": NUM, "go": DO}
        tried = 0
        while tried < 60:
            left, right = (random_piece(rng, 3, names=names, size=2, kind="num", nodes=2, claims=False)
                           for _ in range(2))
            if not set(free_names(right)) <= set(free_names(left)):
                continue
            tried += 1
            rule = Rule(left, right)
            one = Piece(2, names, ("sum", ("not", left.term), X))
            self.assertEqual(matched(rule, one, (1, 1)), {word: name(word) for word in free_names(left)})
            made = rewritten(rule, one, (1, 1))
            self.assertTrue(same(made, exchanged(one, (1, 1), right.term)))
            if is_right(rule):
                self.assertTrue(same(made, one))


if __name__ == "__main__":
    unittest.main()
