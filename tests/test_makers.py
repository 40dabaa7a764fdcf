"""Point 22: machines for some letters."""

import unittest

from languages import A, B, C, check_least, rows
from playsalike.errors import BadLetters, BadRow, TooMany
from playsalike.makers import all_rows, empty, just, nothing, one_of
from playsalike.machines import Machine, takes

WRONG_LETTERS = [None, "a", A, [["a"]], [A, None], {A: 1}, 5, [("a", True)], [()]]
MANY = [("a", number) for number in range(200)]
MAKERS = (nothing, empty, all_rows, lambda letters: just(letters, []), lambda letters: one_of(letters, []))


class Makers(unittest.TestCase):
    def test_what_they_take(self):
        for letters in ([], [A], [B, A], (B, A, B), [C, A, B]):
            own = tuple(sorted(set(letters)))
            wanted = [(nothing(letters), set()), (empty(letters), {()}),
                      (all_rows(letters), rows(all_rows(own), 3)), (just(letters, []), {()}),
                      (one_of(letters, []), set()), (one_of(letters, list(letters)), {(one,) for one in own})]
            for machine, taken in wanted:
                self.assertEqual(machine.letters, own)
                self.assertEqual(rows(machine, 3), taken)
                check_least(self, machine)
            self.assertEqual(len(rows(all_rows(letters), 3)), sum(len(own) ** many for many in range(4)))

    def test_least_forms(self):
        self.assertEqual(nothing([A]), Machine([A], [[]], []))
        self.assertEqual(empty(letters=[A]), Machine([A], [[]], [0]))
        self.assertEqual(all_rows(letters=[B, A]), Machine([A, B], [[(0, 0), (1, 0)]], [0]))
        self.assertEqual(just(letters=[B, A], row=[B, A]), Machine([A, B], [[(1, 1)], [(0, 2)], []], [2]))
        self.assertEqual(one_of(letters=[B, A, C], some=[C, A, C]), Machine([A, B, C], [[(0, 1), (2, 1)], []], [1]))
        self.assertEqual(nothing(letters=[]).ways, ((),))

    def test_just(self):
        for row in ([], [A], [A, A, B], (B, B, B)):
            self.assertEqual(rows(just([A, B], row), 4), {tuple(row)})

    def test_wrong_letters(self):
        for letters in WRONG_LETTERS:
            for maker in MAKERS:
                with self.assertRaises(BadLetters):
                    maker(letters)
            with self.assertRaises(BadLetters):
                just(letters, None)
            with self.assertRaises(BadLetters):
                one_of(letters, None)

    def test_wrong_rows(self):
        for row in (None, "a", A, [["a"]], [A, C], [None], {A: 1}, [("a", 1)], [("a", True)], 5):
            for maker in (just, one_of):
                with self.assertRaises(BadRow):
                    maker([A, B], row)
            with self.assertRaises(BadRow):
                just(MANY + [B], [C])
            with self.assertRaises(BadRow):
                one_of(MANY + [B], [("a", 200)])

    def test_two_hundred_letters(self):
        for maker in MAKERS:
            self.assertEqual(maker(MANY).letters, tuple(MANY))
            with self.assertRaises(TooMany) as caught:
                maker(MANY + [B])
            self.assertEqual(caught.exception.most, 200)
        self.assertEqual(len(one_of(MANY, MANY).ways[0]), 200)

    def test_two_thousand_states(self):
        machine = just([A], [A] * 1999)
        self.assertEqual(len(machine.ways), 2000)
        self.assertTrue(takes(machine, [A] * 1999))
        with self.assertRaises(TooMany) as caught:
            just([A], [A] * 2000)
        self.assertEqual(caught.exception.most, 2000)
        with self.assertRaises(TooMany) as caught:
            just(MANY + [B], [B] * 2000)
        self.assertEqual(caught.exception.most, 200)


if __name__ == "__main__":
    unittest.main()
