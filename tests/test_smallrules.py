"""Points 57 and 58: all small rules that shorten, and pieces brought into normal form."""

import unittest

from meanings import random_piece
from playsalike.alike import same
from playsalike.errors import BadNumber, BadPiece, BadRule, BadRules, BadSort, TooMany
from playsalike.leastterms import least_same
from playsalike.pieces import Piece, function_of
from playsalike.places import part_at, places
from playsalike.rewriting import matched, rewritten
from playsalike.rules import Rule, is_right
from playsalike.smallrules import normal, shortens, small_rules
from samples import BOX, DO, NUM, ODD_VALUES, SKIP, count_nodes, depth_of, every_place, name, number, some
from smallterms import up_to

X, Y, H = name("x"), name("y"), name("h")
LOTS = [{}, {"x": NUM}, {"d": DO}, {"b": BOX}, {"x": NUM, "y": NUM}, {"d": DO, "x": NUM}, {"b": BOX, "x": NUM}]


def rule(left, right, holes=None, size=2):
    names = {"h": NUM, "d": DO} if holes is None else holes
    return Rule(Piece(size, names, left), Piece(size, names, right))


def plain_terms(size, holes, sort, nodes):
    """All terms without new and made ones of at most so many nodes."""
    return [term for term in up_to(size, holes, sort, nodes) if "'new'" not in str(term) and "'made'" not in str(term)]


def sorts_in(holes, part):
    if part[0] == "name":
        return holes[part[1]][1]
    return part[-1] if part[0] == "never" else {"skip": "do", "while": "do", "set": "do",
                                                "claim": "do"}.get(part[0], "num")


class Shortens(unittest.TestCase):
    def test_by_hand(self):
        d = name("d")
        for left, right, wanted in (
                (("sum", H, number(0)), H, True),
                (("sum", H, H), H, True),
                (H, H, False),
                (("not", H), H, True),
                (("sum", H, number(1)), ("not", H), True),
                (("not", H), ("sum", H, number(1)), False),
                (("sum", ("sum", H, H), number(0)), ("sum", H, H), True),
                (("not", ("not", ("not", H))), ("sum", H, H), False),
                (("then", d, ("then", d, d)), ("then", d, d), True),
                (("then", ("then", SKIP, d), SKIP), ("then", d, d), False),
                (("while", H, d), SKIP, True),
                (("not", ("not", H)), number(0), True),
                (number(0), number(1), False)):
            self.assertIs(shortens(rule(left, right)), wanted)
        own = rule(("new", "h", 0, ("then", ("set", H, name("i")), ("get", H))), ("new", "h", 0, name("i")),
                   {"h": NUM, "i": NUM})
        self.assertIs(shortens(rule=own), True)
        hidden = rule(("sum", H, ("new", "h", 0, ("get", H))), ("not", H))
        self.assertIs(shortens(hidden), True)

    def test_no_rules(self):
        for thing in ODD_VALUES + [Piece(2, {}, SKIP)]:
            with self.assertRaises(BadRule) as caught:
                shortens(thing)
            self.assertIsNone(caught.exception.part)


class SmallRules(unittest.TestCase):
    def test_by_hand(self):
        self.assertEqual(small_rules(2, {}, 1), [])
        found = [(told.left.term, told.right.term) for told in small_rules(2, {"x": NUM}, 2)]
        self.assertEqual(found, [(("claim", ("never", "num")), ("never", "do")), (("claim", number(1)), SKIP),
                                 (("not", ("never", "num")), ("never", "num")), (("not", number(0)), number(1)),
                                 (("not", number(1)), number(0))])
        found = {told.left.term: told.right.term for told in small_rules(size=2, holes={"x": NUM, "y": NUM}, nodes=3)}
        self.assertEqual((found[("sum", X, number(0))], found[("not", ("not", X))], found[("below", number(0), X)]),
                         (X, X, X))
        self.assertNotIn(("sum", X, Y), found)
        self.assertEqual(found[("sum", ("never", "num"), X)], ("never", "num"))

    def test_what_they_are(self):
        for size in (2, 3, 4):
            for holes in LOTS:
                for nodes in (1, 2, 3):
                    rules = small_rules(size, holes, nodes)
                    lefts = [told.left.term for told in rules]
                    self.assertEqual(lefts, sorted(lefts))
                    for told in rules[::1 + len(rules) // 12]:
                        self.assertTrue(is_right(told) and shortens(told))
                        self.assertEqual((told.left.size, told.left.names), (size, holes))
                        self.assertLessEqual(count_nodes(told.left.term), nodes)
                        self.assertEqual(least_same(told.left, 3), told.right.term)

    def test_all_of_them(self):
        for size, holes, nodes in ((2, {}, 3), (2, {"x": NUM}, 3), (2, {"b": BOX}, 3), (2, {"d": DO, "x": NUM}, 3),
                                   (3, {"x": NUM}, 3)):
            wanted = []
            for sort in ("num", "do"):
                for left in plain_terms(size, holes, sort, nodes):
                    least = least_same(Piece(size, holes, left), nodes)
                    if count_nodes(least) < count_nodes(left) and all(self.is_tight(size, holes, left, at)
                                                                      for at in every_place(left)[1:]):
                        wanted.append((left, least))
            found = [(told.left.term, told.right.term) for told in small_rules(size, holes, nodes)]
            self.assertEqual(found, sorted(wanted))

    def is_tight(self, size, holes, term, at):
        part = part_at(Piece(size, holes, term), at)
        if sorts_in(holes, part) == "box":
            return True
        one = Piece(size, holes, part)
        return count_nodes(least_same(one, count_nodes(part))) == count_nodes(part)

    def test_one_fits_exactly_if_some_part_is_not_tight(self):
        for size, holes, nodes in ((2, {"x": NUM}, 3), (2, {"d": DO, "x": NUM}, 3), (2, {"b": BOX}, 3),
                                   (3, {"x": NUM}, 3)):
            rules = small_rules(size, holes, nodes)
            seen = {True: 0, False: 0}
            for sort in ("num", "do"):
                for term in plain_terms(size, holes, sort, nodes):
                    one = Piece(size, holes, term)
                    fits = any(matched(told, one, at) is not None for at in places(one) for told in rules)
                    tight = all(self.is_tight(size, holes, term, at) for at in places(one))
                    self.assertEqual(fits, not tight)
                    seen[fits] += 1
            self.assertGreater(min(seen.values()), 10)

    def test_errors_in_their_sequence(self):
        for size in (None, 1, 5, True, "2"):
            with self.assertRaises(BadNumber) as caught:
                small_rules(size, None, None)
            self.assertEqual(caught.exception.part, "size")
        for holes in (None, [], {"x": "num"}, {"X": NUM}, {"x": (("num",), "num")}, {word: NUM for word in "abc"},
                      {"x": NUM, "y": DO, "z": BOX}):
            with self.assertRaises(BadSort):
                small_rules(2, holes, None)
        for nodes in (None, 0, 4, -1, True, 1.0):
            with self.assertRaises(BadNumber) as caught:
                small_rules(2, {}, nodes)
            self.assertEqual(caught.exception.part, "nodes")


class Normal(unittest.TestCase):
    def by_hand(self, one, rules):
        """A second way: places and rules tried one after the other, by rewritten."""
        steps = []
        while True:
            fits = [(at, which) for at in places(one) for which, told in enumerate(rules)
                    if matched(told, one, at) is not None]
            if not fits:
                return one, steps
            at, which = fits[0]
            one = rewritten(rules[which], one, at)
            steps.append((which, at))

    def test_by_hand(self):
        rules = [rule(("sum", H, number(0)), H), rule(("not", ("not", H)), H), rule(("then", SKIP, H), H)]
        one = Piece(2, {"x": NUM}, ("sum", ("not", ("not", ("sum", X, number(0)))), ("then", SKIP, number(0))))
        made, steps = normal(one, rules)
        self.assertEqual(made, Piece(2, {"x": NUM}, X))
        self.assertEqual(steps, [(1, (1,)), (0, (1,)), (2, (2,)), (0, ())])
        self.assertEqual(normal(piece=one, rules=[]), (one, []))
        self.assertEqual(normal(made, rules), (made, []))
        # Of two that fit at the first place it is the first one of the list.
        both = [rule(("sum", H, H), ("not", H)), rule(("sum", H, H), H)]
        self.assertEqual(normal(Piece(2, {"x": NUM}, ("sum", X, X)), both), (Piece(2, {"x": NUM}, ("not", X)),
                                                                             [(0, ())]))
        self.assertEqual(normal(Piece(2, {"x": NUM}, ("sum", X, X)), tuple(both[::-1])), (Piece(2, {"x": NUM}, X),
                                                                                          [(0, ())]))

    def test_with_small_rules(self):
        rng = some(580)
        longest = 0
        for size, holes in ((2, {"x": NUM, "y": NUM}), (2, {"d": DO, "x": NUM}), (2, {"b": BOX, "x": NUM}),
                            (3, {"x": NUM})):
            rules = small_rules(size, holes, 3)
            for _ in range(12):
                one = random_piece(rng, 6, names={"x": NUM, "v": BOX, "go": DO}, size=size, nodes=10)
                try:
                    made, steps = normal(one, rules)
                except TooMany as error:
                    self.assertEqual(error.most, 12)
                    continue
                self.assertEqual((made, steps), self.by_hand(one, rules))
                self.assertTrue(same(made, one))
                self.assertEqual(normal(made, rules), (made, []))
                self.assertFalse([at for at in places(made) for told in rules if matched(told, made, at) is not None])
                longest = max(longest, len(steps))
        self.assertGreater(longest, 2)

    def test_words_of_boxes(self):
        told = rule(("new", "b", 0, ("then", ("set", name("b"), H), ("get", name("b")))), H)
        one = Piece(2, {"x": NUM, "y": NUM},
                    ("new", "x", 0, ("sum", ("get", X), ("new", "q", 0, ("then", ("set", name("q"), ("get", X)),
                                                                         ("get", name("q")))))))
        made, steps = normal(one, [told])
        self.assertEqual((made.term, steps), (("new", "x", 0, ("sum", ("get", X), ("get", X))), [(0, (3, 2))]))
        deep = rule(("sum", ("sum", H, number(0)), number(0)), ("new", "x", 0, ("sum", H, ("get", X))), {"h": NUM})
        self.assertTrue(is_right(deep) and not shortens(deep))
        more = rule(("sum", ("sum", ("sum", H, number(0)), number(0)), number(0)),
                    ("new", "x", 0, ("sum", H, ("get", X))), {"h": NUM})
        one = Piece(2, {"x": NUM}, ("sum", ("sum", ("sum", X, number(0)), number(0)), number(0)))
        made, steps = normal(one, [more])
        self.assertTrue(same(made, one))
        self.assertNotEqual(made.term[1], "x")
        self.assertEqual(steps, [(0, ())])

    def test_rules_that_are_not_right_are_used_as_well(self):
        told = rule(("sum", H, H), number(0))
        self.assertFalse(is_right(told))
        self.assertEqual(normal(Piece(2, {"x": NUM}, ("sum", X, X)), [told])[0].term, number(0))

    def test_too_deep(self):
        wide = ("sum", ("sum", H, name("i")), ("sum", name("j"), number(0)))
        told = rule(wide, ("sum", H, ("not", ("not", ("not", number(0))))), {"h": NUM, "i": NUM, "j": NUM})
        self.assertTrue(shortens(told))
        term = ("sum", ("sum", X, X), ("sum", X, number(0)))
        for _ in range(7):
            term = ("not", term)
        self.assertEqual(depth_of(normal(Piece(2, {"x": NUM}, term), [told])[0].term), 12)
        one = Piece(2, {"x": NUM}, ("not", term))
        with self.assertRaises(TooMany) as caught:
            normal(one, [told])
        self.assertEqual(caught.exception.most, 12)

    def test_errors_in_their_sequence(self):
        good = rule(("sum", H, number(0)), H)
        one = Piece(2, {"x": NUM}, X)
        for thing in ODD_VALUES + [function_of(one)]:
            with self.assertRaises(BadPiece) as caught:
                normal(thing, None)
            self.assertIsNone(caught.exception.part)
        longer = rule(H, ("sum", H, number(0)))
        for rules in (None, good, {}, "", [None], [good, longer], [longer], [good] * 401, [good, one], [[good]], 1,
                      {0: good}):
            with self.assertRaises(BadRules):
                normal(one, rules)
        self.assertEqual(normal(one, [good] * 400), (one, []))
        other = rule(("sum", H, number(0)), H, size=3)
        with self.assertRaises(BadRules):
            normal(one, [other, longer])
        for rules in ([other], [good, other], [other, good]):
            with self.assertRaises(BadRule) as caught:
                normal(one, rules)
            self.assertEqual(caught.exception.part, "size")


if __name__ == "__main__":
    unittest.main()
