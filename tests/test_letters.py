"""Point 20: letters, their order, and rows."""

import unittest
from itertools import product

from playsalike.errors import BadLetters
from playsalike.letters import in_order, is_letter
from samples import ODD_VALUES, some

LETTERS = [("a",), ("b",), ("aa",), ("a", 0), ("a", 1), ("a", 10), ("a", 9), ("a", "a"), ("a", "b"),
           ("a", "aa"), ("b", 0), ("a", 0, "z"), ("a", 0, 0), ("a", "z", 0), ("z", 0, 10 ** 6),
           ("a", 1, 2, 3, 4), ("a", 1, 2, 3), ("abcdefgh", "z", 0, "y", 10 ** 6)]
NONE = [("a", -1), ("a", 10 ** 6 + 1), ("a", True), ("a", False), ("a", 1.0), ("a", ""), ("a", "A"),
        ("a", "abcdefghi"), ("a", None), ("a", ("b",)), (0,), (0, "a"), ("",), ("A",), ("a b",),
        ("abcdefghi",), ("a", 0, 0, 0, 0, 0), ["a"], ["a", 0], "a", (("a",),), (None,), (True, "a"),
        ("\u00e9",), ("a", b"b"), ("a1",), ("a", "\u00df")]


def before(one, other):
    """Whether a letter comes ahead of another one, as the document tells it."""
    if len(one) != len(other):
        return len(one) < len(other)
    for here, there in zip(one, other):
        if here != there:
            if isinstance(here, str) != isinstance(there, str):
                return isinstance(there, str)
            return here < there
    return False


class Letters(unittest.TestCase):
    def test_letters(self):
        for letter in LETTERS:
            self.assertIs(is_letter(letter), True, letter)
            self.assertIs(is_letter(thing=letter), True)

    def test_no_letters(self):
        for thing in NONE:
            self.assertIs(is_letter(thing), False, thing)
        for thing in ODD_VALUES:
            self.assertIs(is_letter(thing), thing in [("a",), ("num",), ("skip",), ("number", 0),
                                                      ("num", "num")], thing)

    def test_order(self):
        self.assertEqual(in_order([("b",), ("a", "b"), ("a", 3), ("aa",), ("a",), ("a", 20), ("b",)]),
                         [("a",), ("aa",), ("b",), ("a", 3), ("a", 20), ("a", "b")])
        for one, other in product(LETTERS, LETTERS):
            wanted = [one] if one == other else [one, other] if before(one, other) else [other, one]
            self.assertEqual(in_order([one, other]), wanted)

    def test_each_once_in_any_sequence(self):
        rng = some(20)
        wanted = in_order(LETTERS)
        self.assertEqual(len(wanted), len(LETTERS))
        self.assertTrue(all(before(wanted[at], wanted[at + 1]) for at in range(len(wanted) - 1)))
        for _ in range(50):
            mixed = LETTERS + rng.sample(LETTERS, 5)
            rng.shuffle(mixed)
            self.assertEqual(in_order(mixed), wanted)
            self.assertEqual(in_order(letters=tuple(mixed)), wanted)

    def test_a_new_list_is_returned(self):
        letters = [("a",), ("b",)]
        found = in_order(letters)
        found.append(("c",))
        self.assertEqual(letters, [("a",), ("b",)])
        self.assertEqual(in_order([]), [])
        self.assertEqual(in_order(()), [])

    def test_wrong_lists(self):
        wrong = [None, "a", ("a",), ["a"], {("a",): 1}, 5, [["a"]], [("a",), None], [("a", True)]]
        for thing in wrong + [[thing] for thing in NONE]:
            with self.assertRaises(BadLetters):
                in_order(thing)


if __name__ == "__main__":
    unittest.main()
