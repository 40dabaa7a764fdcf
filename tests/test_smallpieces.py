"""Point 67: all small terms over names, and the lots of those that do the same."""

import unittest

from playsalike.alike import same
from playsalike.arounds import ended_around
from playsalike.errors import BadNumber, BadSort, TooMany
from playsalike.parters import parter
from playsalike.pieces import Piece
from playsalike.smallpieces import all_terms, classes
from samples import BOX, DO, NUM, ODD_VALUES, SKIP, count_nodes, name, number, some
from smallterms import up_to

X, V = name("x"), name("v")
KINDS = [(2, {}), (3, {}), (4, {}), (2, {"x": NUM}), (2, {"v": BOX}), (2, {"go": DO, "x": NUM}),
         (3, {"a": NUM, "b": BOX}),
         (2, {"f": (("num", "do"), "num"), "v": BOX}), (2, {"a": (("box",), "do"), "c": (("num",), "num")}),
         (2, {"f": (("num", "box", "do"), "do"), "v": BOX, "x": NUM, "y": DO})]


class AllTerms(unittest.TestCase):
    def test_by_hand(self):
        never = ("never", "num")
        self.assertEqual(all_terms(2, {}, "num", 1), [never, number(0), number(1)])
        self.assertEqual(all_terms(2, {}, "do", 1), [("never", "do"), SKIP])
        self.assertEqual(all_terms(2, {"x": NUM}, "num", 1), [("name", "x", ()), never, number(0), number(1)])
        self.assertEqual(all_terms(2, {"a": NUM}, "num", 2)[4:], [
            ("new", "b", 0, name("a")), ("new", "b", 0, never), ("new", "b", 0, number(0)), ("new", "b", 0, number(1)),
            ("new", "b", 1, name("a")), ("new", "b", 1, never), ("new", "b", 1, number(0)), ("new", "b", 1, number(1)),
            ("not", name("a")), ("not", never), ("not", number(0)), ("not", number(1))])
        found = all_terms(size=2, names={"v": BOX}, sort="do", nodes=3)
        self.assertIn(("set", V, number(1)), found)
        self.assertIn(("new", "a", 1, ("new", "b", 0, SKIP)), found)

    def test_all_of_them_in_their_sequence(self):
        seen = 0
        for size, names in KINDS:
            for sort in ("num", "do"):
                for nodes in range(1, 7):
                    wanted = up_to(size, names, sort, nodes) if nodes < 5 else None
                    try:
                        found = all_terms(size, names, sort, nodes)
                    except TooMany as error:
                        self.assertEqual(error.most, 3000)
                        self.assertTrue(wanted is None or len(wanted) > 3000)
                        break
                    if wanted is not None:
                        self.assertEqual(found, wanted)
                    self.assertLessEqual(len(found), 3000)
                    seen += len(found)
                    counts = [count_nodes(term) for term in found]
                    self.assertEqual(counts, sorted(counts))
        self.assertGreater(seen, 10000)

    def test_words_of_new_and_made_boxes(self):
        found = all_terms(2, {"b": BOX}, "num", 4)
        self.assertIn(("get", ("made", number(0), "a", SKIP)), found)
        self.assertIn(("new", "a", 0, ("new", "c", 1, ("get", name("c")))), found)
        self.assertIn(("new", "a", 0, ("new", "c", 1, ("get", name("a")))), found)
        self.assertFalse([term for term in found if "'a'" in str(term) and term[0] == "new" and term[1] != "a"])
        # Within the first part of a made box its number is no name yet.
        wide = all_terms(2, {}, "do", 5)
        self.assertIn(("new", "a", 0, ("set", name("a"), ("get", name("a")))), wide)
        self.assertIn(("set", ("made", number(0), "a", SKIP), number(1)), wide)
        for term in wide:
            Piece(2, {}, term)

    def test_bounds(self):
        self.assertEqual(len(all_terms(2, {"x": NUM}, "do", 5)), 2774)
        for size, names, sort, nodes in ((2, {"x": NUM}, "do", 6), (2, {}, "num", 5), (2, {}, "num", 6),
                                         (4, {word: NUM for word in "abcd"}, "num", 4)):
            with self.assertRaises(TooMany) as caught:
                all_terms(size, names, sort, nodes)
            self.assertEqual(caught.exception.most, 3000)
            with self.assertRaises(TooMany):
                classes(size, names, sort, nodes)


class Classes(unittest.TestCase):
    def test_by_hand(self):
        never = ("never", "num")
        self.assertEqual(classes(2, {}, "num", 1), [(never,), (number(0),), (number(1),)])
        found = classes(2, {"x": NUM}, "num", 2)
        self.assertEqual([lot[0] for lot in found], [X, never, number(0), number(1), ("not", X)])
        self.assertEqual(found[0], (X, ("new", "a", 0, X), ("new", "a", 1, X)))
        self.assertEqual(found[4], (("not", X),))
        self.assertEqual(classes(size=2, names={}, sort="do", nodes=2)[2], (("claim", number(0)),))

    def test_lots_are_those_that_do_the_same(self):
        rng = some(670)
        for size, names in KINDS[:8]:
            for sort in ("num", "do"):
                lots = classes(size, names, sort, 3)
                every = all_terms(size, names, sort, 3)
                self.assertEqual(sorted([term for lot in lots for term in lot]), sorted(every))
                places = [every.index(lot[0]) for lot in lots]
                self.assertEqual(places, sorted(places))
                for lot in lots:
                    self.assertIsInstance(lot, tuple)
                    self.assertEqual([every.index(term) for term in lot], sorted(every.index(term) for term in lot))
                    one = Piece(size, names, lot[0])
                    for term in rng.sample(lot, min(5, len(lot))):
                        self.assertTrue(same(one, Piece(size, names, term)))
                for _ in range(25):
                    first, second = rng.sample(lots, 2)
                    pieces = [Piece(size, names, rng.choice(lot)) for lot in (first, second)]
                    around, which = parter(*pieces)
                    ended = [ended_around(one, around, 10 ** 5)[0] for one in pieces]
                    self.assertNotEqual(ended[0], ended[1])
                    self.assertIn(ended[which], ("do", "broken"))


class Errors(unittest.TestCase):
    def test_errors_in_their_sequence(self):
        for call in (all_terms, classes):
            for size in (None, 1, 5, True, 2.0, "2"):
                with self.assertRaises(BadNumber) as caught:
                    call(size, None, None, None)
                self.assertEqual(caught.exception.part, "size")
            for names in (None, [], {"X": NUM}, {"x": "num"}, {word: NUM for word in "abcde"}, {"x": [(), "num"]}):
                with self.assertRaises(BadSort):
                    call(2, names, None, None)
            for sort in [thing for thing in ODD_VALUES if thing not in ("num", "do")] + ["box", ((), "num")]:
                with self.assertRaises(BadSort):
                    call(2, {}, sort, None)
            for nodes in (None, 0, 7, -1, True, 1.0, "1"):
                with self.assertRaises(BadNumber) as caught:
                    call(2, {}, "num", nodes)
                self.assertEqual(caught.exception.part, "nodes")

    def test_names_are_not_changed(self):
        names = {"x": NUM, "v": BOX}
        all_terms(2, names, "num", 3)
        self.assertEqual(names, {"x": NUM, "v": BOX})


if __name__ == "__main__":
    unittest.main()
