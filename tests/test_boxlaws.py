"""Points 65 and 66: what boxes of a piece keep behind it, ahead of it, and through loops."""

import unittest
from itertools import product

from meanings import random_piece
from playsalike.boxlaws import after, breaks_from
from playsalike.claims import is_safe
from playsalike.endings import answers
from playsalike.errors import BadBoxes, BadPiece, BadStarts, TooMany
from playsalike.invariants import before, least_kept
from playsalike.pieces import Function, Piece, made_piece
from samples import BOX, DO, NUM, ODD_VALUES, SKIP, name, number, some, too_great

X, V, W = name("x"), name("v"), name("w")
ONE = {"v": BOX, "x": NUM}
TWO = {"v": BOX, "w": BOX, "x": NUM, "f": (("box",), "do")}


def get(word):
    return ("get", name(word))


def is_at(boxes, standing):
    """A number that tells whether the boxes keep this."""
    term = number(1)
    for word, kept in zip(boxes, standing):
        term = ("if", ("same", get(word), number(kept)), term, number(0))
    return term


def with_boxes(piece, boxes, start, term):
    """The piece of the term with new boxes in the place of the names."""
    for word, kept in zip(boxes, start):
        term = ("new", word, kept, term)
    names = {word: sort for word, sort in piece.names.items() if word not in boxes}
    return made_piece(piece.size, names, term, "num")


def done(term, kind):
    """A deed that works the term out."""
    return term if kind == "do" else ("set", ("made", number(0), "unused", SKIP), term)


def after_new_boxes(piece, boxes, start):
    """What new boxes in the place of the names may keep behind the piece."""
    found = []
    for standing in product(range(piece.size), repeat=len(boxes)):
        told = with_boxes(piece, boxes, start, ("then", done(piece.term, piece.kind), is_at(boxes, standing)))
        if 1 in answers(told):
            found.append(standing)
    return found


class After(unittest.TestCase):
    def test_by_hand(self):
        piece = Piece(2, ONE, ("set", V, X))
        self.assertEqual(after(piece=piece, boxes=("v",), starts=[(0,)]), [(0,), (1,)])
        self.assertEqual(after(Piece(2, ONE, ("set", V, ("not", get("v")))), ("v",), [(0,)]), [(1,)])
        piece = Piece(3, ONE, ("if", ("get", V), ("set", V, number(2)), SKIP))
        self.assertEqual(after(piece, ("v",), [(1,), (0,)]), [(0,), (2,)])
        self.assertEqual(after(Piece(2, ONE, ("then", ("claim", get("v")), SKIP)), ("v",), [(0,)]), [])
        self.assertEqual(after(Piece(2, ONE, ("then", ("claim", get("v")), get("v"))), ("v",), ((0,), (1,), (1,))), [(1,)])
        self.assertEqual(after(Piece(2, ONE, ("set", V, X)), ("v",), []), [])
        self.assertEqual(after(Piece(2, ONE, ("never", "do")), ("v",), [(0,)]), [])

    def test_boxes_in_any_sequence(self):
        swap = ("new", "t", 0, ("then", ("set", name("t"), get("v")), ("then", ("set", V, get("w")), ("set", W, get("t")))))
        piece = Piece(3, TWO, swap)
        self.assertEqual(after(piece, ("v", "w"), [(0, 2), (1, 1)]), [(1, 1), (2, 0)])
        copy = Piece(3, TWO, ("set", V, get("w")))
        self.assertEqual(after(copy, ("v", "w"), [(0, 2)]), [(2, 2)])
        self.assertEqual(after(copy, ("w", "v"), [(0, 2)]), [(0, 0)])

    def test_boxes_in_arguments_are_set_by_what_is_called(self):
        piece = Piece(2, TWO, name("f", V))
        self.assertEqual(after(piece, ("v", "w"), [(0, 1)]), [(0, 1), (1, 1)])

    def test_breaks(self):
        piece = Piece(3, ONE, ("then", ("set", V, ("sum", get("v"), number(1))), ("claim", ("below", get("v"), number(2)))))
        self.assertEqual(breaks_from(piece=piece, boxes=("v",), starts=[(2,), (1,), (0,), (1,)]), [(1,)])
        self.assertEqual(breaks_from(Piece(3, ONE, ("claim", X)), ("v",), [(2,), (0,)]), [(0,), (2,)])
        self.assertEqual(breaks_from(Piece(3, ONE, SKIP), ("v",), [(2,)]), [])
        self.assertEqual(breaks_from(Piece(3, ONE, ("claim", X)), ("v",), []), [])

    def test_against_new_boxes(self):
        rng = some(65)
        seen = {}
        for _ in range(90):
            many = rng.choice((1, 1, 2, 3))
            boxes = tuple(rng.sample(("v", "w", "a"), many))
            names = {word: BOX for word in boxes}
            names[("f", "x")[many % 2]] = rng.choice(((("box",), "do"), (("do",), "do"), NUM, DO))
            size = 3 if many < 2 else 2
            piece = random_piece(rng, 5, size=size, names=names, nodes=4)
            starts = list(product(range(size), repeat=many))
            each = {start: after_new_boxes(piece, boxes, start) for start in starts}
            breaking = [start for start in starts if not is_safe(with_boxes(
                piece, boxes, start, ("then", done(piece.term, piece.kind), number(0))))]
            for start in starts:
                self.assertEqual(after(piece, boxes, [start]), each[start])
            lot = rng.sample(starts, rng.randint(0, len(starts)))
            self.assertEqual(after(piece, boxes, lot), sorted({one for start in lot for one in each[start]}))
            self.assertEqual(breaks_from(piece, boxes, lot), sorted(set(lot) & set(breaking)))
            wanted = rng.sample(starts, rng.randint(0, len(starts)))
            found = [start for start in starts if start not in breaking and set(each[start]) <= set(wanted)]
            self.assertEqual(before(piece, boxes, wanted), found)
            within = set(after(piece, boxes, lot)) <= set(wanted) and not breaks_from(piece, boxes, lot)
            self.assertEqual(within, set(lot) <= set(found))
            seen[bool(breaking), bool(found), len(boxes)] = True
        self.assertGreater(len(seen), 6)

    def test_one_behind_the_other(self):
        rng = some(66)
        names = {"v": BOX, "w": BOX, "x": NUM}
        for _ in range(120):
            first, second = (random_piece(rng, 4, size=2, names=names, nodes=3, kind="do") for _ in range(2))
            both = made_piece(2, names, ("then", first.term, second.term), "do")
            for boxes in (("v", "w"), ("w", "v")):
                starts = rng.sample(list(product(range(2), repeat=2)), 2)
                self.assertEqual(after(both, boxes, starts), after(second, boxes, after(first, boxes, starts)))

    def test_three_boxes_of_four_numbers(self):
        names = {"a": BOX, "b": BOX, "c": BOX, "x": NUM}
        sets = ("then", ("set", name("a"), X), ("then", ("set", name("b"), X), ("set", name("c"), get("a"))))
        found = after(Piece(4, names, sets), ("c", "a", "b"), [(0, 0, 0)])
        self.assertEqual(found, [(n, n, m) for n in range(4) for m in range(4)])


class Before(unittest.TestCase):
    def test_by_hand(self):
        piece = Piece(3, ONE, ("set", V, ("sum", get("v"), number(1))))
        self.assertEqual(before(piece=piece, boxes=("v",), wanted=[(0,), (2,)]), [(1,), (2,)])
        self.assertEqual(before(Piece(3, ONE, ("claim", get("v"))), ("v",), [(0,), (1,), (2,)]), [(1,), (2,)])
        self.assertEqual(before(Piece(2, ONE, ("set", V, X)), ("v",), [(0,)]), [])
        self.assertEqual(before(Piece(2, ONE, ("never", "do")), ("v",), []), [(0,), (1,)])
        self.assertEqual(before(Piece(2, {"v": BOX, "w": BOX}, ("set", V, get("w"))), ("w", "v"), [(1, 1)]), [(1, 0), (1, 1)])

    def test_loops_by_hand(self):
        names = {"v": BOX}
        test = Piece(4, names, ("below", get("v"), number(3)))
        body = Piece(4, names, ("set", V, ("sum", get("v"), number(1))))
        self.assertEqual(least_kept(test=test, body=body, boxes=("v",), starts=[(1,)]), [(1,), (2,), (3,)])
        self.assertEqual(least_kept(test, body, ("v",), ()), [])
        self.assertEqual(least_kept(test, body, ("v",), ((3,), (3,))), [(3,)])
        # The test may set boxes, too: behind it the body begins.
        test = Piece(4, names, ("then", ("set", V, ("sum", get("v"), number(1))), ("below", get("v"), number(3))))
        self.assertEqual(least_kept(test, body, ("v",), [(0,)]), [(0,), (2,)])
        self.assertEqual(least_kept(Piece(4, names, number(2)), Piece(4, names, ("never", "do")), ("v",), [(2,), (0,)]),
                         [(0,), (2,)])

    def test_loops(self):
        rng = some(67)
        names = {"v": BOX, "w": BOX, "x": NUM}
        grown = 0
        for _ in range(200):
            test = random_piece(rng, 4, size=2, names=names, nodes=3, kind="num")
            body = random_piece(rng, 4, size=2, names=names, nodes=3, kind="do")
            boxes = rng.choice((("v", "w"), ("w", "v")))
            starts = rng.sample(list(product(range(2), repeat=2)), rng.randint(0, 2))
            kept = least_kept(test, body, boxes, starts)
            loop = made_piece(2, names, ("while", test.term, body.term), "do")
            left = Piece(2, names, ("if", test.term, ("never", "do"), SKIP))
            self.assertEqual(after(loop, boxes, starts), after(left, boxes, kept))
            held = Piece(2, names, ("if", test.term, SKIP, ("never", "do")))
            wanted = set(starts)
            while True:
                further = wanted | set(after(body, boxes, after(held, boxes, sorted(wanted))))
                if further == wanted:
                    break
                wanted = further
            self.assertEqual(kept, sorted(wanted))
            grown += len(kept) > len(starts) + 1
        self.assertGreater(grown, 5)


class Errors(unittest.TestCase):
    def test_in_their_sequence(self):
        piece = Piece(2, {"v": BOX, "w": BOX, "x": NUM}, SKIP)
        for call in (after, breaks_from, before):
            for thing in ODD_VALUES + [Function(2, {}, (), SKIP)]:
                with self.assertRaises(BadPiece) as caught:
                    call(thing, None, None)
                self.assertIsNone(caught.exception.part)
            self.check(call, piece)

    def check(self, call, piece):
        for boxes in (None, (), ("v",), ["v", "w"], ("v", "v"), ("v", "w", "x"), ("v", "w", "w"), ("v", None), "vw", ("v", 0),
                      (("v",), "w"), ("v", "y"), ("v", "x"), {"v": 0, "w": 1}):
            with self.assertRaises(BadBoxes):
                call(piece, boxes, None)
        for starts in (None, [(0,)], [(0, 2)], [(0, -1)], [[0, 0]], [(0, True)], [(0, 0, 0)], [()], (0, 0), [(0, 0), None], "a",
                       {(0, 0): 1}, [(0, 0.0)], [(0, "0")]):
            with self.assertRaises(BadStarts):
                call(piece, ("w", "v"), starts)
        call(piece, ("w", "v"), ((0, 0), (0, 0)))
        for boxes in ((), None, ("x",)):
            with self.assertRaises(BadBoxes):
                call(Piece(2, {"x": NUM}, SKIP), boxes, [])
        four = Piece(2, {word: BOX for word in "abcd"}, SKIP)
        for boxes in (("a", "b", "c"), ("a", "b", "c", "d")):
            with self.assertRaises(BadBoxes):
                call(four, boxes, [])
        great = too_great(piece.names, SKIP)
        for starts in ([], [(0, 0)]):
            with self.assertRaises(TooMany) as caught:
                call(great, ("v", "w"), starts)
            self.assertEqual(caught.exception.most, 2000)
        with self.assertRaises(BadStarts):
            call(great, ("v", "w"), [(0, 2)])

    def test_of_loops(self):
        names = {"v": BOX, "x": NUM}
        test, body = Piece(2, names, X), Piece(2, names, SKIP)
        for thing in ODD_VALUES:
            for pair in ((thing, body), (test, thing), (thing, thing)):
                with self.assertRaises(BadPiece) as caught:
                    least_kept(*pair, None, None)
                self.assertIsNone(caught.exception.part)
        for pair, part in (((Piece(3, {}, SKIP), body), "size"), ((Piece(2, {"v": BOX}, SKIP), body), "names"),
                           ((Piece(2, {"v": BOX, "x": DO}, SKIP), test), "names"), ((body, body), "sort"),
                           ((test, test), "sort"), ((body, test), "sort")):
            with self.assertRaises(BadPiece) as caught:
                least_kept(*pair, None, None)
            self.assertEqual(caught.exception.part, part)
        for boxes in ((), ("x",), ["v"], ("v", "v"), None):
            with self.assertRaises(BadBoxes):
                least_kept(test, body, boxes, None)
        for starts in (None, [(2,)], [[0]], [(True,)]):
            with self.assertRaises(BadStarts):
                least_kept(test, body, ("v",), starts)
        great = too_great(names, SKIP)
        for starts in ([], [(0,)]):
            with self.assertRaises(TooMany) as caught:
                least_kept(Piece(2, names, number(0)), great, ("v",), starts)
            self.assertEqual(caught.exception.most, 2000)
            with self.assertRaises(TooMany):
                least_kept(made_piece(2, names, ("then", great.term, X), "num"), body, ("v",), starts)


if __name__ == "__main__":
    unittest.main()
