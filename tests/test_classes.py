"""Point 47: pieces sorted out."""

import unittest

from meanings import random_names, random_piece
from playsalike.alike import less, same
from playsalike.classes import above_of, classes_of, least_of_all
from playsalike.errors import BadPieces, TooMany
from playsalike.pieces import Piece
from samples import DO, NUM, ODD_VALUES, SKIP, name, number, some, too_great

X, GO = name("x"), name("go")
CALLS = (classes_of, above_of, least_of_all)


def piece(term, size=2, names=None):
    return Piece(size, names or {"go": DO, "x": NUM}, term)


class Classes(unittest.TestCase):
    def test_by_hand(self):
        never, looks = ("never", "do"), ("if", X, SKIP, SKIP)
        terms = (looks, never, ("if", X, SKIP, never), ("while", number(1), GO), ("if", ("not", X), SKIP, SKIP), GO,
                 ("then", never, GO))
        pieces = [piece(term) for term in terms]
        self.assertEqual(classes_of(pieces=pieces), ((0, 4), (1, 3, 6), (2,), (5,)))
        lows = [1, 3, 6]
        wanted = sorted([(low, at) for low in lows for at in range(7) if at != low] + [(0, 4), (4, 0), (2, 0), (2, 4)])
        self.assertEqual(above_of(pieces=pieces), wanted)
        self.assertEqual(least_of_all(pieces=pieces), (1, 3, 6))
        self.assertEqual(least_of_all(pieces[4:6]), (0, 1))
        self.assertEqual(least_of_all((pieces[0], pieces[2], pieces[4])), (1,))

    def test_one_piece(self):
        self.assertEqual((classes_of([piece(X)]), above_of([piece(X)]), least_of_all([piece(X)])), (((0,),), [], (0,)))

    def test_by_chance(self):
        rng = some(47)
        most = 0
        for _ in range(60):
            names = random_names(rng, 2)
            size = rng.randint(1, 12)
            pieces = [random_piece(rng, 3, size=2, names=names, kind="do", nodes=1) for _ in range(size)]
            found = classes_of(pieces)
            most = max(most, len(found))
            self.assertEqual(sorted(at for lot in found for at in lot), list(range(size)))
            self.assertEqual(found, tuple(sorted(found)))
            for lot in found:
                self.assertEqual(lot, tuple(at for at in range(size) if same(pieces[lot[0]], pieces[at])))
            above = above_of(tuple(pieces))
            self.assertEqual(above, [(i, j) for i in range(size) for j in range(size)
                                     if i != j and less(pieces[i], pieces[j])])
            for i, j in above:
                for k, last in above:
                    if k == j and last != i:
                        self.assertIn((i, last), above)       # less and less again is less
            self.assertEqual(least_of_all(pieces), tuple(
                at for at in range(size) if not any((other, at) in above and (at, other) not in above for other in range(size))))
        self.assertGreater(most, 4)

    def test_errors(self):
        good = piece(GO)
        wrong = [[], (), [good] * 13, [good, piece(X)], [good, piece(GO, 3)], [good, piece(GO, 2, {"go": DO})], [good, None],
                 [None, good], good, {0: good}, "ab", [[good]], [good, "go"]] + ODD_VALUES
        for thing in wrong:
            for call in CALLS:
                with self.assertRaises(BadPieces):
                    call(thing)
        self.assertEqual(classes_of([good] * 12), (tuple(range(12)),))
        great = too_great({"go": DO, "x": NUM}, SKIP)
        for call in CALLS:
            with self.assertRaises(TooMany) as caught:
                call([good, great])
            self.assertEqual(caught.exception.most, 2000)
            with self.assertRaises(BadPieces):
                call([great, piece(X)])


if __name__ == "__main__":
    unittest.main()
