"""Point 52: where rules fit, and what comes of pieces by them."""

import unittest

from meanings import random_piece
from playsalike.alike import same
from playsalike.errors import BadPiece, BadPlace, BadRule, BadTerm, TooMany
from playsalike.pieces import Piece, function_of
from playsalike.places import exchanged, names_at, part_at, places
from playsalike.rewriting import matched, rewritten
from playsalike.rules import Rule, is_right
from samples import (BOX, DO, NUM, ODD_VALUES, SKIP, count_nodes, depth_of, every_place, leveled, name, number,
                     random_term,
                     some, term_parts)
from termparts import free_uses, own_of, put_by, sort_in

X, Y, V, GO, H = name("x"), name("y"), name("v"), name("go"), name("h")
NAMES = {"x": NUM, "y": NUM, "v": BOX, "go": DO}


def rule(left, right=None, holes=None, size=2):
    names = {"h": NUM} if holes is None else holes
    return Rule(Piece(size, names, left), Piece(size, names, left if right is None else right))


def piece(term, names=None, size=2):
    return Piece(size, NAMES if names is None else names, term)


def fits(holes, left, part, names, ours, theirs, found):
    """A second way: by calls within calls; words are exchanged for how many terms with words stand around."""
    if left[0] == "name" and left[1] not in ours:
        sort = sort_in(names, part)
        free = [use[1] for use in free_uses(part)]
        if sort != holes[left[1]][1] or any(word in theirs for word in free) or "claim" in str(part):
            return False
        return found.setdefault(left[1], part) == part
    if left[0] == "name":
        return part[0] == "name" and part[1] in theirs and ours[left[1]] == theirs[part[1]]
    if left[0] != part[0] or left[0] == "name":
        return False
    if left[0] in ("number", "never") and left != part or left[0] == "new" and left[2] != part[2]:
        return False
    level = len(str(ours)) + len(str(theirs)) + 1
    for (path, one), (_, other) in zip(term_parts(left), term_parts(part)):
        inner, mine, yours = names, ours, theirs
        if path == (3,) and left[0] in ("new", "made"):
            mine, yours = {**ours, own_of(left): level}, {**theirs, own_of(part): level}
            inner = {**names, own_of(part): BOX if left[0] == "new" else NUM}
        if not fits(holes, one, other, inner, mine, yours, found):
            return False
    return True


class Matched(unittest.TestCase):
    def test_by_hand(self):
        told = rule(("sum", H, number(0)))
        self.assertEqual(matched(told, piece(("not", ("sum", ("less", X, Y), number(0)))), (1,)), {"h": ("less", X, Y)})
        for term in (("sum", X, number(1)), ("sum", number(0), X), ("less", X, number(0)), X, number(0)):
            self.assertIsNone(matched(told, piece(term), ()))
        self.assertEqual(matched(rule=told, piece=piece(("sum", number(0), number(0))), at=()), {"h": number(0)})

    def test_holes_that_stand_twice(self):
        told = rule(("same", H, H))
        self.assertEqual(matched(told, piece(("same", ("sum", X, Y), ("sum", X, Y))), ()), {"h": ("sum", X, Y)})
        self.assertIsNone(matched(told, piece(("same", ("sum", X, Y), ("sum", Y, X))), ()))
        own = [("new", word, 0, ("get", name(word))) for word in "ab"]
        self.assertIsNone(matched(told, piece(("same", *own)), ()))
        self.assertEqual(matched(told, piece(("same", own[0], own[0])), ()), {"h": own[0]})

    def test_sorts(self):
        deed, box, any_num = rule(name("d"), holes={"d": DO}), rule(("get", name("b")), holes={"b": BOX}), rule(H)
        for term, sort in (
                (X, "num"),
                (("then", GO, X), "num"),
                (GO, "do"),
                (("if", X, GO, SKIP), "do"),
                (("never", "num"), "num"),
                (("never", "do"), "do"),
                (("new", "x", 0, ("set", X, number(1))), "do"),
                (("new", "go", 0, X), "num"),
                (("while", X, GO), "do"),
                (("set", V, X), "do"),
                (("get", V), "num")):
            self.assertEqual(matched(deed, piece(term), ()), {"d": term} if sort == "do" else None)
            self.assertEqual(matched(any_num, piece(term), ()), {"h": term} if sort == "num" else None)
        self.assertEqual(matched(box, piece(("get", V)), ()), {"b": V})
        made = ("made", X, "n", GO)
        self.assertEqual(matched(box, piece(("get", made)), ()), {"b": made})
        self.assertIsNone(matched(deed, piece(("get", made)), (1,)))
        self.assertEqual(matched(deed, piece(("get", made)), (1, 3)), {"d": GO})
        names = {"f": (("box",), "num"), "v": BOX}
        self.assertEqual(matched(any_num, piece(name("f", V), names), ()), {"h": name("f", V)})
        self.assertIsNone(matched(any_num, piece(name("f", V), names), (2, 0)))

    def test_claims(self):
        deed = rule(("then", name("d"), name("e")), holes={"d": DO, "e": DO})
        self.assertIsNone(matched(deed, piece(("then", ("claim", X), GO)), ()))
        self.assertIsNone(matched(deed, piece(("then", GO, ("new", "b", 0, ("claim", X)))), ()))
        self.assertEqual(matched(deed, piece(("then", GO, ("then", GO, GO))), ()), {"d": GO, "e": ("then", GO, GO)})
        own = rule(("then", ("claim", H), SKIP))
        self.assertEqual(matched(own, piece(("then", ("claim", X), SKIP)), ()), {"h": X})
        self.assertIsNone(matched(own, piece(("then", ("claim", ("then", ("claim", X), Y)), SKIP)), ()))

    def test_words_of_terms_around(self):
        told = rule(("new", "b", 0, ("then", ("set", name("b"), H), ("get", name("b")))))
        b, c = name("b"), name("c")
        self.assertEqual(matched(told, piece(("new", "c", 0, ("then", ("set", c, X), ("get", c)))), ()), {"h": X})
        self.assertEqual(matched(told, piece(("new", "x", 0, ("then", ("set", X, Y), ("get", X)))), ()), {"h": Y})
        for term in (("new", "c", 1, ("then", ("set", c, X), ("get", c))), ("new", "c", 0, ("then", ("set", c, X),
                                                                                            ("get", V))),
                     ("new", "c", 0, ("then", ("set", V, X), ("get", c))),
                     ("new", "c", 0, ("then", ("set", c, ("get", c)), ("get", c))),
                     ("new", "c", 0, ("then", ("set", c, X), ("get", ("made", ("get", c), "n", SKIP))))):
            self.assertIsNone(matched(told, piece(term), ()))
        inner = ("new", "v", 1, ("new", "c", 0, ("then", ("set", c, ("get", V)), ("get", c))))
        self.assertEqual(matched(told, piece(inner), (3,)), {"h": ("get", V)})
        shadow = ("new", "c", 0, ("then", ("set", c, ("new", "c", 1, ("get", c))), ("get", c)))
        self.assertEqual(matched(told, piece(shadow), ()), {"h": ("new", "c", 1, ("get", c))})
        self.assertIsNone(matched(told, piece(("new", "c", 0, ("then", ("set", c, ("new", "d", 1, ("get", c))),
                                                               ("get", c)))), ()))
        self.assertEqual(matched(rule(("new", "h", 0, ("get", H)), holes={"h": BOX}),
                                 piece(("new", "b", 0, ("get", b))), ()), {})

    def test_words_that_are_given_twice(self):
        a, b = name("a"), name("b")
        outer = rule(("new", "a", 0, ("new", "b", 0, ("get", a))))
        inner = rule(("new", "a", 0, ("new", "b", 0, ("get", b))))
        again = rule(("new", "a", 0, ("new", "a", 0, ("get", a))))
        for term, which in ((("new", "b", 0, ("new", "a", 0, ("get", b))), outer),
                            (("new", "b", 0, ("new", "a", 0, ("get", a))), inner),
                            (("new", "x", 0, ("new", "x", 0, ("get", X))), inner)):
            for told in (outer, inner, again):
                self.assertEqual(matched(told, piece(term), ()) == {}, told is which or which is inner
                                 and told is again)
        made = rule(("set", ("made", H, "n", ("set", name("b"), name("n"))), number(1)), holes={"h": NUM, "b": BOX})
        term = ("set", ("made", X, "m", ("set", V, name("m"))), number(1))
        self.assertEqual(matched(made, piece(term), ()), {"b": V, "h": X})
        for wrong in (("set", ("made", X, "m", ("set", V, X)), number(1)),
                      ("set", ("made", X, "m", ("set", V, number(1))), number(1)),
                      ("set", ("made", X, "x", ("set", V, Y)), number(1))):
            self.assertIsNone(matched(made, piece(wrong), ()))
        self.assertEqual(matched(made, piece(("set", ("made", X, "x", ("set", V, X)), number(1))), ()),
                         {"b": V, "h": X})

    def test_only_holes_that_stand_free(self):
        told = rule(("sum", H, ("new", "k", 0, number(1))), number(0), {"h": NUM, "k": BOX, "z": DO})
        self.assertEqual(matched(told, piece(("sum", X, ("new", "q", 0, number(1)))), ()), {"h": X})
        found = matched(rule(("then", name("z"), ("sum", H, name("a"))), holes={"h": NUM, "z": DO, "a": NUM}),
                        piece(("then", GO, ("sum", Y, X))), ())
        self.assertEqual(list(found.items()), [("a", X), ("h", Y), ("z", GO)])

    def test_by_chance(self):
        rng = some(520)
        seen = {True: 0, False: 0}
        for _ in range(1500):
            one = random_piece(rng, 6, names=NAMES, size=2, nodes=5)
            at = rng.choice(places(one))
            part, names = part_at(one, at), names_at(one, at)
            if sort_in(names, part) == "box":
                continue
            left, holes = self.with_holes(rng, part, names)
            if rng.random() < 0.4:
                left = self.changed(rng, left)
            if not set(use[1] for use in free_uses(left)) <= set(holes):
                continue
            told = Rule(Piece(2, holes, left), Piece(2, holes, left))
            wanted = {}
            if not fits(holes, left, part, names, {}, {}, wanted):
                wanted = None
            found = matched(told, one, at)
            self.assertEqual(found, wanted)
            if found is not None:
                self.assertEqual(list(found), sorted(found))
                self.assertEqual(leveled(rewritten(told, one, at).term), leveled(one.term))
            seen[found is not None] += 1
        self.assertGreater(min(seen.values()), 150)

    def with_holes(self, rng, part, names):
        """A term that may fit the part: some parts exchanged for holes h, i, .., words of its own exchanged."""
        holes = {}

        def made(term, inner, own):
            sort = sort_in(inner, term)
            uses = free_uses(term)
            if (rng.random() < 0.3 or any(use[1] not in own for use in uses[:1]
                                          if term[0] == "name")) and len(holes) < 4:
                word = rng.choice("hijk")
                if holes.setdefault(word, ((), sort)) == ((), sort):
                    return name(word)
            if term[0] == "name":
                return name(own.get(term[1], term[1]), *[made(arg, inner, own) for arg in term[2]])
            things = list(term)
            for path, other in term_parts(term):
                there, words = inner, own
                if path == (3,) and term[0] in ("new", "made"):
                    fresh = rng.choice(["p", "q", own_of(term)])
                    there, words = {**inner, own_of(term): BOX
                                    if term[0] == "new" else NUM}, {**own, own_of(term): fresh}
                    things[1 if term[0] == "new" else 2] = fresh
                things[path[0]] = made(other, there, words)
            return tuple(things)

        left = made(part, names, {})
        while True:
            try:
                Piece(2, holes, left)
                return left, holes
            except Exception:
                holes.clear()
                left = made(part, names, {})

    def changed(self, rng, left):
        numbers = [at for at in every_place(left)]
        at = rng.choice(numbers)

        def at_place(term, path):
            if not path:
                if term[0] == "number":
                    return number(1 - term[1])
                return {"sum": ("less",), "less": ("sum",), "same": ("below",)}.get(term[0], term[:1]) + term[1:]
            things = list(term)
            if path[0] == 2 and term[0] == "name":
                args = list(term[2])
                args[path[1]] = at_place(args[path[1]], path[2:])
                return term[:2] + (tuple(args),)
            things[path[0]] = at_place(term[path[0]], path[1:])
            return tuple(things)

        return at_place(left, at)


class Rewritten(unittest.TestCase):
    def test_by_hand(self):
        told = rule(("sum", H, number(0)), H)
        one = piece(("not", ("sum", ("less", X, Y), number(0))))
        self.assertEqual(rewritten(told, one, (1,)), piece(("not", ("less", X, Y))))
        self.assertIsNone(rewritten(rule=told, piece=one, at=()))
        twice = rule(("if", H, name("d"), name("d")), ("then", ("if", H, SKIP, SKIP), name("d")), {"h": NUM, "d": DO})
        self.assertEqual(rewritten(twice, piece(("if", X, GO, GO)), ()).term, ("then", ("if", X, SKIP, SKIP), GO))
        self.assertEqual(one, piece(("not", ("sum", ("less", X, Y), number(0)))))

    def test_words_of_right_take_no_free_ones(self):
        told = rule(("sum", H, name("i")), ("new", "x", 0, ("then", ("set", X, H), ("sum", ("get", X), name("i")))),
                    {"h": NUM, "i": NUM})
        one = piece(("sum", X, ("sum", Y, X)))
        self.assertTrue(is_right(told))
        for at in ((), (2,)):
            made = rewritten(told, one, at)
            self.assertTrue(same(made, one))
            self.assertEqual(part_at(made, at)[0], "new")
            self.assertNotIn(part_at(made, at)[1], ("x", "y"))
        made = rule(("set", name("b"), H), ("set", ("made", ("get", name("b")), "x", ("set", name("b"), X)), H),
                    {"h": NUM, "b": BOX})
        self.assertTrue(is_right(made))
        box = ("made", X, "z", ("if", ("same", X, name("z")), GO, ("set", V, name("z"))))
        one = piece(("set", box, Y))
        self.assertTrue(same(rewritten(made, one, ()), one))
        under = piece(("new", "x", 0, ("sum", ("get", X), Y)))
        self.assertTrue(same(rewritten(told, under, (3,)), under))

    def test_right_rules_lead_to_the_same(self):
        rng = some(521)
        holes = {"h": NUM, "i": NUM, "d": DO, "b": BOX}
        i, d, b = name("i"), name("d"), name("b")
        pairs = [(("sum", H, i), ("less", H, i)), (("not", H), ("same", H, number(0))), (("sum", H, number(0)), H),
                 (("then", d, H), ("new", "x", 1, ("then", d, H))), (("if", H, d, SKIP), ("if", ("not", H), SKIP, d)),
                 (("while", H, d), ("if", H, ("then", d, ("while", H, d)), SKIP)),
                 (("set", b, H), ("then", SKIP, ("set", b, H))),
                 (("get", b), ("get", ("made", ("get", b), "x", ("set", b, X)))),
                 (("claim", H), ("if", H, SKIP, ("claim", number(0)))),
                 (("new", "y", 0, ("then", ("set", Y, H), ("get", Y))), ("less", H, number(0)))]
        rules = [Rule(Piece(2, holes, left), Piece(2, holes, right)) for left, right in pairs]
        self.assertTrue(all(is_right(told) for told in rules))
        used = [0] * len(rules)
        for turn in range(200):
            one = self.piece_with(rng, rules[turn % len(rules)].left.term, holes)
            for at in places(one):
                for number_of, told in enumerate(rules):
                    if matched(told, one, at) is None:
                        self.assertIsNone(rewritten(told, one, at))
                        continue
                    made = rewritten(told, one, at)
                    self.assertTrue(same(made, one), (one.term, at, told.left.term))
                    self.assertEqual(Piece(2, NAMES, made.term), made)
                    used[number_of] += 1
        self.assertGreater(min(used), 9)

    def piece_with(self, rng, left, holes):
        """A piece in which left stands with terms in the place of its holes."""
        while True:
            one = random_piece(rng, 4, names=NAMES, size=2, nodes=4)
            at = rng.choice(places(one))
            names = names_at(one, at)
            table = {word: random_term(rng, 2, names, sort[1], 2, False) for word, sort in holes.items()}
            try:
                return exchanged(one, at, put_by(left, table))
            except (BadPiece, BadTerm, TooMany):
                continue

    def test_a_rule_that_is_not_right_changes_some_piece(self):
        told = rule(("same", H, H), number(1))
        self.assertFalse(is_right(told))
        one = piece(("same", X, X))
        self.assertFalse(same(rewritten(told, one, ()), one))
        one = piece(("same", number(0), number(0)))
        self.assertTrue(same(rewritten(told, one, ()), one))

    def test_too_many(self):
        double, deeper = rule(H, ("sum", H, H)), rule(H, ("not", ("not", H)))
        wide = X
        for _ in range(4):
            wide = ("sum", wide, wide)
        one = piece(wide)
        self.assertEqual(count_nodes(one.term), 31)
        for at, nodes in (((1,), 47), ((1, 1), 39), ((2, 2, 2, 2), 33)):
            made = rewritten(double, one, at)
            self.assertEqual(count_nodes(made.term), nodes)
        made = rewritten(double, rewritten(double, rewritten(double, one, (1, 1)), (1, 2)), (2, 1, 1))
        self.assertEqual(count_nodes(made.term), 51)
        made = rewritten(double, made, (2, 1, 2))
        made = rewritten(double, rewritten(double, made, (2, 2, 2, 2)), (2, 2, 2, 1))
        self.assertEqual(count_nodes(made.term), 59)
        for at in ((2, 2, 2, 2, 2), ()):
            with self.assertRaises(TooMany) as caught:
                rewritten(double, made, at)
            self.assertEqual(caught.exception.most, 60)
        chain = X
        for _ in range(9):
            chain = ("not", chain)
        one = piece(chain)
        self.assertEqual(depth_of(one.term), 10)
        made = rewritten(deeper, one, (1, 1))
        self.assertEqual(depth_of(made.term), 12)
        for at in ((1,) * 11, ()):
            with self.assertRaises(TooMany) as caught:
                rewritten(deeper, made, at)
            self.assertEqual(caught.exception.most, 12)
        self.assertEqual(depth_of(rewritten(rule(("not", H), H), made, ()).term), 11)
        self.assertIsNone(rewritten(rule(name("d"), holes={"d": DO}), made, ()))

    def test_errors_in_their_sequence(self):
        told, one = rule(H), piece(X)
        for call in (matched, rewritten):
            for thing in ODD_VALUES + [one, function_of(one)]:
                with self.assertRaises(BadRule) as caught:
                    call(thing, None, None)
                self.assertIsNone(caught.exception.part)
                if not isinstance(thing, Piece):
                    with self.assertRaises(BadPiece) as caught:
                        call(told, thing, None)
                    self.assertIsNone(caught.exception.part)
            with self.assertRaises(BadRule) as caught:
                call(told, piece(X, size=3), None)
            self.assertEqual(caught.exception.part, "size")
            for at in (None, [], (0,), (1,), (2, 0), "x", (True,), 0):
                with self.assertRaises(BadPlace):
                    call(told, one, at)

    def test_terms_by_chance_stay_pieces(self):
        rng = some(522)
        for _ in range(100):
            holes = {"h": NUM, "d": DO}
            left, right = (random_term(rng, 2, holes, "do", 3) for _ in range(2))
            if not set(use[1] for use in free_uses(right)) <= set(use[1] for use in free_uses(left)):
                continue
            told = Rule(Piece(2, holes, left), Piece(2, holes, right))
            one = random_piece(rng, 6, names=NAMES, size=2)
            for at in places(one):
                try:
                    made = rewritten(told, one, at)
                except TooMany:
                    continue
                if made is not None:
                    self.assertEqual(Piece(2, NAMES, made.term), made)


if __name__ == "__main__":
    unittest.main()
